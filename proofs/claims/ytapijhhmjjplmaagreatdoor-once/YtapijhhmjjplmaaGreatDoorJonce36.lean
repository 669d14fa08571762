import Derived.Test.YtapijhhmjjplmaaGreatDoorJonce35
namespace Go.Proofs.YtapijhhmjjplmaaGreatDoor
set_option linter.all false
set_option maxRecDepth 100000
set_option maxHeartbeats 4000000
open Go.Proofs.Tryz
variable {ops:Array Oper}{Q:Exit→Act→World→Prop}{rest:List Oper}{b:Nat}{o:Oper}{P:Program}{w:World}
section
open Go.RowKit Go.Maps
def MH(ST:Nat->Prop)(g ba N a0 a1 a2 a3 f0 f1 f2 f3 rb:Nat)(pre:List Value)(has:List Ob)(E:mu)(T:cS)(nb mb:List ByteArray->Nat)(f:Nat):Prop:=
 ∀(p:List ByteArray)(ps:im)(N2 a:Nat)(S:Nat->Prop)(p0 bv:Value)(w:World),8<=p.length+f->dK T p->eO T p=false->j0 w S g ba N a0 a1 a2 a3 N2 f0 f1 f2 f3 pre has (jH E ps) p0 bv->dC w ST rb T nb mb->(∀q,ST q->¬S q/\q≠ba/\q<w.heap.size)->(∀V,cq (λq=>S q\/q=ba) w V->fL V)->DB (jH E ps) a->(∀x∈ps,nR x)->a+41*(1+(lA T p).length)<=60000->N2+17*(1+(lA T p).length)+20<=100000->
  Calls prog 162 #[yP g,eM (nb p)] w λe w'=>e=.returned (dL (cV (dF T has (f+1) p ps).2))/\rr w S g ba N a0 a1 a2 a3 (N2+17*(1+(lA T p).length)) f0 f1 f2 f3 pre has (jH E (dF T has (f+1) p ps).1) w'
theorem li{a:Act}(c:o.guard=none)(ty:TypeId)(x y:Operand)(d:o.op=.store ty x y)(b k:Nat)(cells:Array Value)(e:a.eval x=.pointer (yS b k))(f:a.eval y=.agg cells)(g:w.there b k cells.size)(i:(P.info? ty).map (·.size)=some cells.size)(j:cells.all (·.oneCell')=true)(h:∀w',Hid (w'=w.setCells b k cells.toList)->wpList P ops Q rest (a.put o.dst undef) w'):wpList P ops Q (o::rest) a w:=
 wpList_store_mid c ty x y d b k cells e f g i j (h _ rfl)
theorem ly(b:Nat):∀(vs:List Value)(o:Nat)(w:World),cq (·=b) w (w.setCells b o vs)
 |[],_,w=>cq.refl _ w
 |v::r,o,w=>by rw[World.setCells];exact((cq.refl (·=b) w).setCell (yA b o) rfl v).trans (ly b r (o+1) _)
def nB(A:Array Value)(o:Nat):List Value->Array Value
 |[]=>A
 |v::r=>nB (A.setIfInBounds o v) (o+1) r
theorem lr(b:Nat)(t:TypeId):∀(vs:List Value)(o:Nat)(w:World)(A:Array Value),w.heap[b]?=some (.cells A t (0,0))->(w.setCells b o vs).heap[b]?=some (.cells (nB A o vs) t (0,0))
 |[],_,_,_,h=>h
 |v::r,o,w,A,h=>by rw[World.setCells];exact lr b t r (o+1) _ _ (gE _ _ _ _ _ _ h)
theorem vZ{t:TypeId}{A:Array Value}(h:w.heap[b]?=some (.cells A t (0,0)))(o n:Nat)(a:o+n<=A.size):w.there b o n:=λj hj=>by
 refine⟨?_,fH _ _ _ _ _ h⟩;rw[cG h,Nt (by omega)];rfl
theorem Bl(A:Array Value):∀(vs:List Value)(o:Nat)(P R:List Value),A.toList=P++R->P.length=o->vs.length<=R.length->(nB A o vs).toList=P++vs++R.drop vs.length:=by
 intro vs
 induction vs generalizing A with
 |nil=>intro o P R h _ _;simp[nB,h]
 |cons v r ih=>
  intro o P R h ho hl
  cases R with
  |nil=>simp at hl
  |cons x R=>
   rw[nB,ih (A.setIfInBounds o v) (o+1) (P++[v]) R ?_ ?_ ?_]
   .simp
   .rw[PW,h,<-ho];simp
   .simp[ho]
   simpa using hl
theorem An(nm s:ByteArray)(k:Int)(a:s.size=32):(nB (qt nm k) 2 (db s)).toList=.string nm::.int .u8 k::db s:=by
 rw[Bl _ (db s) 2 [.string nm,.int .u8 k] (List.replicate 32 (Value.int .u8 0)) (by unfold qt;simp) rfl (by rw[cE,a];simp)];rw[cE,a];simp
theorem yU(K:Nat->Prop)(g k N l m r s t z B D M:Nat)(d:List Value)(has:List Ob)(E:mu)(T:cS)(F H:List ByteArray->Nat)(f:Nat)(G:eN T)(I:mV T)(J:1<=E.seq)(O:∀f',f=f'+1->MH K g k N l m r s t z B D M d has E T F H f'):MH K g k N l m r s t z B D M d has E T F H f:=by
 intro p ps N2 a S p0 bv w hdep hp hf h hTM hST hTb hDB hPW ha hN2;obtain⟨lb,l0,l1,l2,l3⟩:=h.lts;obtain⟨D0,hD0,hK⟩:=hTM.map p hp hf;have hrow:=hTM.node p hp;rw[iK hf]at hrow;have c1:w.cell? ⟨F p,1,none⟩=some (.map (some (H p))):=cG hrow;obtain⟨hkeys,hsize⟩:=hK.keys G;have hs256:=Bv G hK;obtain⟨i0,z0,hi0,hz0,hz1,hz2,hz3⟩:=Ao;have HI0:Hid (prog.info? 366=some i0/\i0.zero=some z0/\i0.size=34/\i0.bytes=56/\z0.cells.size=34):=⟨hi0,hz0,hz1,hz2,hz3⟩;have HI34:Hid ((prog.info? 366).map (·.size)=some 34):=by show _=_;kernel_rfl
 have HI32:Hid ((prog.info? 131).map (·.size)=some 32):=by show _=_;kernel_rfl
 clear hi0 hz0 hz1 hz2 hz3;obtain⟨b4,hb4⟩:=eX (w.heap.size);obtain⟨W0,hW0⟩:=eX (w.alloc (.cells fN 131));have hB0:Below w.heap.size w W0:=by rw[hW0];exact(dw _ _).alloc (cO _) _
 have hz0:W0.heap.size=w.heap.size+1:=by rw[hW0];simp
 have r40:W0.heap[b4]?=some (.cells fN 131 (0,0)):=by rw[hW0,hb4];exact dM w _
 have hDW0:W0.ownsMap prog 9 cY (H p) 256 D0:=dg hD0 (hB0.block _ (dN hD0));have c10:W0.cell? ⟨F p,1,none⟩=some (.map (some (H p))):=by rw[hB0.cell (pr c1)];exact c1
 have HMK:Hid (Calls prog 234 #[.map (some (H p))] W0 λe w'=>e=.returned (.func (.func 275) #[] #[yP W0.heap.size])/\w'=W0.alloc (.cells #[.map (some (H p))] 272)):=A3 (some (H p)) W0;have HSK:=tN (H p) 256 D0 cY W0 hDW0 (by unfold maxLen;omega) oM;obtain⟨W1,hW1⟩:=eX (W0.alloc (.cells #[.map (some (H p))] 272));rw[<-hW1]at HMK HSK;have hB1:Below w.heap.size w W1:=hW1▸hB0.alloc hB0.size _;obtain⟨L,hL⟩:=eX (dh T p)
 have HSS:Hid (Calls prog 233 #[.func (.func 275) #[] #[yP W0.heap.size]] W1 λe w'=>∃v,e=.returned v/\w'.ownsRow W1.heap.size 9 1 v L.length (em L)/\Below W1.heap.size W1 w'):=by
  refine iM HSK ?_;rintro e w' ⟨v,ss,rfl,h1,h2,h3⟩;have hpp:=h1.trans hkeys;rw[xf hpp,yX]at h2;have hl:ss.length=(dh T p).length:=by rw[hpp.length_eq,iF,(fh T p).length_eq]
  rw[hl]at h2;rw[hL];exact⟨v,rfl,h2,h3⟩
 have hLn:L.length<=16:=by rw[hL,(fh T p).length_eq];exact I p
 have HKM:Hid (∀nm∈L,nm.size<=16/\∃x,cA T (p++[nm])=some x):=λnm hm=>by rw[hL]at hm;have h1:=(js G p nm).1 hm;obtain⟨x,hx⟩:=Option.isSome_iff_exists.1 h1;refine⟨?_,x,hx⟩;obtain⟨h2,h3⟩:=dI hx;have h4:=(G.val x h2).2.2;rw[h3]at h4;exact(io (h4 nm sI)).2
 
 have HST0:Hid (∀v3 w3,w3.ownsRow W1.heap.size 9 1 v3 L.length (em L)->Below W1.heap.size W1 w3->yI w S g k N l m r s (N2+17*gU T p (L.take 0)) t z B D b4 d has (jH E (cM T has f p ps (L.take 0)).1) [] (.slice none 0 0) v3 L (λq=>S q/\q<w.heap.size) p0 bv w3):=by
  intro v3 w3 ho hb;have hb3:Below w.heap.size w w3:=hB1.trans (hb.mono hB1.size);have h1:=hB1.size;have hz1:W1.heap.size=w.heap.size+2:=by rw[hW1];simp;omega
  refine⟨h.cut.below hb3,λq hq=>⟨.inl hq.1,ny hq.2 hb3.size⟩,λe=>by have:=e.2;omega,?_,⟨rfl,.inl ⟨rfl,rfl⟩⟩,λq e=>(by cases e),ii ho (fP _),λq e=>?_,cq.of_below hb3⟩
  .rw[hb.block _ (by omega),hW1,cK _ _ (by omega)];exact r40
  have:=(cr ho q e).1;exact⟨λe=>by have:=e.2;omega,oM,oM,λe=>(by cases e)⟩
 
 have HKID:Hid (∀(j:Nat)(hj:j<L.length)(V:World)(ls:List gS)(lv nv:Value)(U:Nat->Prop)(q0 qv:Value),yI w S g k N l m r s (N2+17*gU T p (L.take j)) t z B D b4 d has (jH E (cM T has f p ps (L.take j)).1) ls lv nv L U q0 qv V->(eO T (p++[L[j]])=false->Calls prog 162 #[yP g,.pointer (some ⟨F (p++[L[j]]),0,none⟩)] V λe w'=>e=.returned (dL (nl T has f p (cM T has f p ps (L.take j)).1 L[j]).sum)/\rr V U g k N l m r s (N2+17*gU T p (L.take (j+1))) t z B D d has (jH E (cM T has f p ps (L.take (j+1))).1) w')/\
   (eO T (p++[L[j]])=true->Calls prog 235 #[yP g,.string (eK T (p++[L[j]]))] V λe w'=>e=.returned (dL (nl T has f p (cM T has f p ps (L.take j)).1 L[j]).sum)/\rr V U g k N l m r s (N2+17*gU T p (L.take (j+1))) t z B D d has (jH E (cM T has f p ps (L.take (j+1))).1) w')):=by
  intro j hj V ls lv nv U q0 qv hI;obtain⟨hx0,x,hx⟩:=HKM.out L[j] (mX _);have hsome:(cA T (p++[L[j]])).isSome:=by rw[hx];rfl
  have hall:∀n∈L.take j,(cA T (p++[n])).isSome:=λn hn=>by obtain⟨-,y,hy⟩:=HKM.out n (Pr hn);rw[hy];rfl
  obtain⟨kPW,kDB⟩:=DB.kids G I rfl J has f p ps a hPW hDB (L.take j) hall;obtain⟨hTV,hSV⟩:=hI.tree hTM hST;have hTbV:∀V',cq (λq=>U q\/q=k) V V'->fL V':=λV' hV'=>hTb V' (hI.same.then (hV'.weak λq hq=>hq.elim (λe=>(hI.tS q e).1.elim (λe=>.inl (.inl e)) .inr) (λe=>.inl (.inr e))))
  have hat:=tD G hsome;have htk:=Eg T p L j hj;have hle1:=JB T p L (j+1);have hle2:gU T p L<=(lA T p).length:=hL▸zv G p;have hd8:(p++[L[j]]).length<=8:=by obtain⟨h2,h3⟩:=dI hx;have:=(G.val x h2).2.1;rw[h3]at this;exact this
  rw[ir,qf]at hd8;obtain⟨f',rfl⟩:∃f',f=f'+1:=⟨f-1,oM⟩;have hfst:=EM T has (f'+1) p ps L j hj;have hnode:dK T (p++[L[j]]):=.inr hsome;refine⟨λhfj=>?_,λhfj=>?_⟩
  .have:=O f' rfl (p++[L[j]]) (cM T has (f'+1) p ps (L.take j)).1 (N2+17*gU T p (L.take j)) (a+41*gU T p (L.take j)) U q0 qv V (by rw[ir,qf];omega) hnode hfj hI.dr hTV hSV hTbV kDB kPW oM oM;refine iM this ?_;rintro e w' ⟨rfl,hX⟩;refine⟨rfl,?_⟩;rw[hfst];exact hX.up oM
  have:=Fu U g k N l m r s (N2+17*gU T p (L.take j)) t z B D (a+41*gU T p (L.take j)) d has (jH E (cM T has (f'+1) p ps (L.take j)).1) q0 qv (eK T (p++[L[j]])) V hI.dr hTbV oM kDB oM (qZ G _);refine iM this ?_;rintro e w' ⟨rfl,h1,h2⟩;have hX:rr V U g k N l m r s (N2+17*gU T p (L.take j)+du (eK T (p++[L[j]])).size+1) t z B D d has (Ap has (jH E (cM T has (f'+1) p ps (L.take j)).1) (eK T (p++[L[j]]))) w':=⟨h1,h2⟩;have hfc:du (eK T (p++[L[j]])).size<=16:=by have:=qZ G (p++[L[j]]);unfold du;omega
  unfold nl;rw[hfst,fD T has f' _ _ hfj];rw[uu E J]at hX;exact⟨rfl,hX.up oM⟩
 
 have HEND:Hid (∀(V:World)(ls:List gS)(lv nv:Value)(U:Nat->Prop)(q0 qv:Value),yI w S g k N l m r s (N2+17*gU T p (L.take L.length)) t z B D b4 d has (jH E (cM T has f p ps (L.take L.length)).1) ls lv nv L U q0 qv V->ls.length=L.length->iI (ls.map nI)=(cM T has f p ps L).2->(∀x∈ls,x.sum.size=32/\x.name.size<=255)->
   Calls prog 237 #[lv] V λe w5=>e=.returned (.string (cM T has f p ps L).2)/\Calls prog 236 #[yP g,.int .u8 3,.string (cM T has f p ps L).2] w5 λe w6=>e=.returned (dL (cV (cM T has f p ps L).2))/\w6.heap[b4]?=some (.cells fN 131 (0,0))/\∀V7 A,V7=w6.setRow b4 A->rr w S g k N l m r s (N2+17*(1+(lA T p).length)) t z B D d has (jH E (dF T has (f+1) p ps).1) V7):=by
  intro V ls lv nv U q0 qv hI hlen htxt hls;rw[NP]at hI;have hle2:gU T p L<=(lA T p).length:=hL▸zv G p;have hall:∀n∈L,(cA T (p++[n])).isSome:=λn hn=>by obtain⟨-,y,hy⟩:=HKM.out n hn;rw[hy];rfl
  obtain⟨kPW,kDB⟩:=DB.kids G I rfl J has f p ps a hPW hDB L hall;have hz800:=(mB rfl G I has (f+1) p ps hPW).2;rw[fC T has f p ps hf,<-hL]at hz800⊢;have hz800:(cM T has f p ps L).2.size<=800:=hz800;refine iM (Co 0 lv ls V hI.own hls oM) ?_;rintro e w5 ⟨rfl,hb5⟩;refine⟨by rw[htxt],?_⟩;have hI5:=hI.below hb5;obtain⟨e1,e2,e3,e4⟩:=kDB;refine iM (rC U g k N l m r s (N2+17*gU T p L) t z B D 3 d has (jH E (cM T has f p ps L).1) q0 qv (cM T has f p ps L).2 w5 hI5.dr (λV' hV'=>hTb V' (hI5.same.then (hV'.weak λq hq=>hq.elim (λe=>(hI5.tS q e).1.elim (λe=>.inl (.inl e)) .inr) (λe=>.inl (.inr e))))) (by omega) (by omega) (by omega) (by omega) (by omega) e3 (by omega) (by omega)) ?_;rintro e w6 ⟨rfl,x1,q1,qv1,x2⟩;have l4:=cm hI5.r4;have hz5:=hI5.same.size;have k4:w6.heap[b4]?=some (.cells fN 131 (0,0)):=by rw[x1.block _ l4 (by rintro(e|e);exact hI5.n4 e;omega)];exact hI5.r4
  refine⟨rfl,k4,λV7 A e7=>?_⟩;have hs7:cq (·=b4) w6 V7:=e7▸fQ _ _ _;have ksame:cq (λq=>S q\/q=k) w w6:=hI5.same.then (x1.weak λq hq=>hq.elim (λe=>(hI5.tS q e).1.elim (λe=>.inl (.inl e)) .inr) (λe=>.inl (.inr e)))
  refine⟨ksame.then (hs7.weak λq e=>.inr oM),q1,qv1,?_⟩;rw[oC E J]at x2;refine j0.upN ?_ (show N2+17*gU T p L+1<=_ by omega);exact(x2.on hs7 (by rintro q (hq|hq) e;exact hI5.n4 (e▸hq);omega) oM ⟨oM,oM,oM,oM⟩).grow (λq hq=>hq.elim (λh=>(hI5.tS q h).1) (λh=>.inr oM)) (λe=>e.elim h.nb (λe=>by omega)) ⟨λe=>e.elim h.na.1 (λe=>by omega),λe=>e.elim h.na.2.1 (λe=>by omega),λe=>e.elim h.na.2.2.1 (λe=>by omega),λe=>e.elim h.na.2.2.2 (λe=>by omega)⟩
 have HTX:Hid ((dF T has (f+1) p ps).2=(cM T has f p ps L).2):=by show _=_;rw[fC T has f p ps hf,hL]
 have HTM:Hid (dC w K M T F H/\(∀q,K q->¬S q/\q≠k/\q<w.heap.size)/\dK T p/\eO T p=false/\eN T):=⟨hTM,hST,hp,hf,G⟩;have HLT:Hid (k<w.heap.size/\(l<w.heap.size/\m<w.heap.size/\r<w.heap.size/\s<w.heap.size)/\w.heap.size<=b4):=⟨lb,⟨l0,l1,l2,l3⟩,oM⟩;have HBQ:Hid (F p<w.heap.size):=pr c1;obtain⟨n,hn⟩:=eX (L.length);have HNL:=hD hn;rw[<-hn]at hLn;have hni:(n:Int)<=16:=oM;have hpq:eM (F p)=.pointer (some ⟨F p,0,none⟩):=rfl;rw[hpq];obtain⟨rv,hrv⟩:=eX (dL (cV (dF T has (f+1) p ps).2));have HRV:=hD hrv;obtain⟨RX,hRX⟩:=eX (rr w S g k N l m r s (N2+17*(1+(lA T p).length)) t z B D d has (jH E (dF T has (f+1) p ps).1):World->Prop);have HRX:=hD hRX;rw[<-hrv,<-hRX];clear h hTM hST hTb hDB hPW ha hN2 hdep hp hf hD0 hK hrow c1 hkeys hsize hs256 hDW0 HSK hW1 hB1 hL hn G I J O lb l0 l1 l2 l3 hpq hrv hRX hz0 r40 hB0;go_enter func162,ntmps162;go_upto_region 1 with fail
 refine eR (λV=>Hid (V=W0)) hW0.symm ?_;intro V0 hV0;rw[hV0.out,<-hb4];clear hW0 hb4 hV0
 go_wp2_with (first|(go_at_call 234;refine HMK.out.mono ?_;rintro e w1 ⟨rfl,rfl⟩)|(go_at_call 233;refine HSS.out.mono ?_;rintro e w3 ⟨v3,rfl,hown3,hb3⟩;have H30:=Hid.mk' (HST0.out v3 w3 hown3 hb3);obtain⟨ao3,c3,rfl⟩:=cQ hown3;rw[<-HNL.out];rw[<-HNL.out]at H30;clear hown3 hb3))
 obtain⟨nv,hnv⟩:=eX (Value.slice ao3 n c3);have HNV:=hD hnv;go_loopw [5,17] (λlv iv wr=>∃j:Nat,j<=n/\iv=.int .i64 j/\Hid (∃ls U q0 qv,yI w S g k N l m r s (N2+17*gU T p (L.take j)) t z B D b4 d has (jH E (cM T has f p ps (L.take j)).1) ls lv nv L U q0 qv wr/\ls.length=j/\iI (ls.map nI)=(cM T has f p ps (L.take j)).2/\∀x∈ls,x.sum.size=32/\x.name.size<=255)) (λ_ i _=>n-(intOf i).toNat)
 case atStart=>
  refine⟨0,fP _,rfl,?_⟩;rw[hnv];exact⟨[],λq=>S q/\q<w.heap.size,p0,bv,H30.out,rfl,rfl,λx hx=>by cases hx⟩
 obtain⟨j,hj,rfl,HJ⟩:=hrel;clear H30 HMK HSS HST0 c10;by_cases hlt:j<n
 .have hji:(j:Int)<n:=oM;have hjl:j<L.length:=by have:=HNL.out;omega
  obtain⟨ls,U,q0,qv,hI,hls1,hls2,hls3⟩:=HJ.out;have HJN:Hid (j<=16):=by show _<=_;omega
  obtain⟨nm,hnm⟩:=eX (L[j]);obtain⟨hns,x,hx⟩:=HKM.out nm (hnm▸mX _)
  obtain⟨g3,hg3,hcl⟩:∃g3,ao3=some (yA g3 0)/\wr.cell? (yA g3 j)=some (.string nm):=by
   have hsa:=je.of_own hI.nm;rw[HNV.out]at hsa;rcases hsa with⟨h,-⟩|⟨g3,c,hv3,hg3,hc3⟩
   .rw[h]at hjl;cases hjl
   cases(show ao3=some (yA g3 0) from by injection hv3)
   exact⟨g3,rfl,by rw[hc3 j hjl,hnm]⟩
  subst hg3;obtain⟨b8,hb8⟩:=eX (wr.heap.size);obtain⟨V1,hV1⟩:=eX ((wr.alloc (.cells ic 366)).setRow wr.heap.size (qt nm 2));have hB1:Below wr.heap.size wr V1:=hV1▸cC ((dw _ _).alloc (cO _) _) (cO _) _;have hr1:V1.heap[b8]?=some (.cells (qt nm 2) 366 (0,0)):=by rw[hb8,hV1];exact ja _ _ _ _ _ _ (dM wr _)
  have hI1:=hI.below hB1;obtain⟨hTV,hSV⟩:=hI1.tree HTM.out.1 HTM.out.2.1;have hxn:dK T (p++[nm]):=.inr (by rw[hx];rfl);have c1r:V1.cell? ⟨F p,1,none⟩=some (.map (some (H p))):=by have h:=hTV.node p HTM.out.2.2.1;rw[iK HTM.out.2.2.2.1]at h;exact cG h
  have hrun:(Instr.lookup 272 (.map (some (H p))) (.string nm) false).run prog V1=.ok (.pointer (some ⟨F (p++[nm]),0,none⟩)) V1:=by
   obtain⟨D1,hD1,hK1⟩:=hTV.map p HTM.out.2.2.1 HTM.out.2.2.2.1;obtain⟨cv,ps',hrun,hcv⟩:=hD1.lookup mm La (qJ V1) (zd:=.held (.pointer none)) (zp:=[]) rfl (key:=.string nm) (kl:=.string (bl nm)) (NQ xV (by unfold maxLen;omega));have hcv2:cv=.pointer (some ⟨F (p++[nm]),0,none⟩):=by have h1:=hK1.at nm (.held (.pointer none));rw[hx]at h1;rw[h1]at hcv;unfold cY at hcv;exact FA (Hi (kM hcv)).1
   rw[<-hcv2];exact hrun
  have hIS:Calls prog 226 #[.pointer (some ⟨F (p++[nm]),0,none⟩)] V1 λe w'=>e=.returned (.bool (!eO T (p++[nm])))/\V1=w':=hTV.isDir _ hxn
  obtain⟨dx,hdx⟩:=eX (eK T (p++[nm]))
  have d0:V1.cell? ⟨F (p++[nm]),0,none⟩=some (.string dx):=by
   rw[cG (hTV.node _ hxn),hdx];have:i8 T (p++[nm])=eK T (p++[nm]):=by unfold i8 eK;rw[hx]
   rw[<-this];rfl
  obtain⟨bx,hbx⟩:=eX (F (p++[nm]));rw[<-hbx]at hrun d0 hIS;obtain⟨kx,hkx⟩:=eX (nl T has f p (cM T has f p ps (L.take j)).1 nm);obtain⟨A,hA⟩:=eX ((db kx.sum).toArray);have hA':A.toList=db kx.sum:=by rw[hA]
  have hkxs:kx.sum.size=32:=hkx▸el _;have HAA:Hid (A.size=32/\A.all (·.oneCell')=true):=⟨by rw[hA,jO,cE,hkxs],Array.all_eq_true_iff_forall_mem.2 (λv hv=>by rw[hA]at hv;exact eA _ v (by simpa using hv))⟩;have hcall:=HKID.out j hjl V1 ls u5 nv U q0 qv hI1;rw[<-hnm,<-hkx,show dL kx.sum=.agg A by rw[hA];rfl,<-hdx]at hcall;have h81:b8<V1.heap.size:=cm hr1;have hz0:=hI.same.size;have HR5:Hid (∀w5,rr V1 U g k N l m r s (N2+17*gU T p (L.take (j+1))) t z B D d has (jH E (cM T has f p ps (L.take (j+1))).1) w5->w5.heap[b8]?=some (.cells (qt nm 2) 366 (0,0))):=by intro w5 hX;rw[hX.1.block _ h81 (by rintro(e|e);have:=(hI.tS _ e).2;omega;have:=HLT.out.1;omega)];exact hr1
  have HTAIL:Hid (∀w5 W7 C,rr V1 U g k N l m r s (N2+17*gU T p (L.take (j+1))) t z B D d has (jH E (cM T has f p ps (L.take (j+1))).1) w5->cq (·=b8) w5 W7->C.toList=gp kx->W7.heap[b8]?=some (.cells C 366 (0,0))->Hid (W7.ownsRow 0 366 34 u5 j (fM ls))/\Hid (W7.heap[b8]?=some (.cells C 366 (0,0)))/\Hid (∀g9 cap9 W9,W9.ownsRow 0 366 34 (.slice (yS g9 0) (j+1) cap9) (j+1) (fM ls++C.toList)->(W7.alloc (.cells C 366)).grownBy W9 u5.ownBlock->(u5.ownBlock=some g9\/g9=W7.heap.size+1)->∃ls U q0 qv,yI w S g k N l m r s (N2+17*gU T p (L.take (j+1))) t z B D b4 d has (jH E (cM T has f p ps (L.take (j+1))).1) ls (.slice (yS g9 0) (j+1) cap9) nv L U q0 qv W9/\ls.length=j+1/\iI (ls.map nI)=(cM T has f p ps (L.take (j+1))).2/\∀x∈ls,x.sum.size=32/\x.name.size<=255)):=by
   intro w5 W7 C hX hs7 hCl hr7;obtain⟨U',q0',qv',hI7,-,-⟩:=hI.kid HLT.out.1 HLT.out.2.1 HLT.out.2.2 hB1 hb8 h81 hX hs7;have ho7:=hI7.own;rw[hls1]at ho7;refine⟨ho7,hr7,?_⟩;intro g9 cap9 W9 h1 h2 h3;refine⟨ls++[kx],U',q0',qv',hI7.app HLT.out.1 HLT.out.2.1 hls1.symm hCl h1 h2 h3,by rw[ir,hls1];rfl,?_,?_⟩
   .rw[qA,Cw,jy,hls2,Bn T has f p ps L j hjl,<-hnm,<-hkx]
   intro y hy;rcases List.mem_append.1 hy with hy|hy
   .exact hls3 y hy
   rw[List.mem_singleton.1 hy];refine⟨hkxs,?_⟩;rw[hkx];show nm.size<=255;omega
  clear hkxs hA h81 hz0 HJ hdx;cases hfj:eO T (p++[nm])
  ·
   have HIS:Hid (Calls prog 226 #[yP bx] V1 λe w'=>e=.returned (.bool true)/\V1=w'):=by rw[hfj]at hIS;exact hIS
   obtain⟨C,hC⟩:=eX (nB (qt nm 3) 2 (db kx.sum));have hCl:C.toList=gp kx:=by rw[hC,An nm kx.sum 3 (hkx▸el _),hkx];unfold gp nl eG;rw[hfj];rfl
   have hCs:C.size=34:=by rw[<-gf,hCl];exact ef kx (hkx▸el _)
   have HCS:Hid (C.size=34/\True):=⟨hCs,trivial⟩;have HCO:Hid (∀u∈C.toList,u.oneCell'=true):=λu hu=>gR kx u (by rw[<-hCl];exact hu)
   have HCALL:Hid (Calls prog 162 #[yP g,yP bx] V1 λe w'=>e=.returned (.agg A)/\rr V1 U g k N l m r s (N2+17*gU T p (L.take (j+1))) t z B D d has (jH E (cM T has f p ps (L.take (j+1))).1) w'):=hbx▸hcall.1 hfj;have HTL:Hid (∀w5 W6 W7,rr V1 U g k N l m r s (N2+17*gU T p (L.take (j+1))) t z B D d has (jH E (cM T has f p ps (L.take (j+1))).1) w5->cq (·=b8) w5 W6->W6.heap[b8]?=some (.cells (qt nm 3) 366 (0,0))->W7=W6.setCells b8 2 A.toList->Hid (W7.ownsRow 0 366 34 u5 j (fM ls))/\Hid (W7.heap[b8]?=some (.cells C 366 (0,0)))/\Hid (∀g9 cap9 W9,W9.ownsRow 0 366 34 (.slice (yS g9 0) (j+1) cap9) (j+1) (fM ls++C.toList)->(W7.alloc (.cells C 366)).grownBy W9 u5.ownBlock->(u5.ownBlock=some g9\/g9=W7.heap.size+1)->∃ls U q0 qv,yI w S g k N l m r s (N2+17*gU T p (L.take (j+1))) t z B D b4 d has (jH E (cM T has f p ps (L.take (j+1))).1) ls (.slice (yS g9 0) (j+1) cap9) nv L U q0 qv W9/\ls.length=j+1/\iI (ls.map nI)=(cM T has f p ps (L.take (j+1))).2/\∀x∈ls,x.sum.size=32/\x.name.size<=255)):=by intro w5 W6 W7 hX hs6 hr6 hw7;refine HTAIL.out w5 W7 C hX (hs6.trans (hw7▸ly b8 _ 2 W6)) hCl ?_;rw[hw7,hC,hA'];exact lr b8 _ _ 2 W6 _ hr6
   clear hI hI1 hTV hSV hxn hx hIS hcall hC hCl hCs hfj hkx hA' HTAIL hB1 hr1 hls1 hls2 hls3 hnm hns hbx;go_upto_region 5 with fail
   refine Gj _ nm wr (λV0 HV0=>?_);obtain rfl:V0=V1:=HV0.out.trans hV1.symm;rw[<-hb8];clear HV0 hV1 hb8
   go_wp2_with fail
   refine HIS.out.mono ?_;rintro e w4 ⟨rfl,rfl⟩;clear hrun c1r
   go_wp2_with fail
   refine HCALL.out.mono ?_;rintro e w5 ⟨rfl,hX5⟩;have hr5:=HR5.out w5 hX5;have c51:w5.cell? (yA b8 1)=some (.int .u8 2):=cG hr5;have z51:w5.frozen? (yA b8 1)=false:=fH _ _ _ _ _ hr5;have hr6:(w5.setCell (yA b8 1) (.int .u8 3)).heap[b8]?=some (.cells (qt nm 3) 366 (0,0)):=gE _ _ _ _ _ _ hr5;have HTH5:Hid ((w5.setCell (yA b8 1) (.int .u8 3)).there b8 2 A.size):=vZ hr6 2 _ (by rw[HAA.out.1];exact cO 34);have HTL5:=Hid.mk' (λW7=>HTL.out w5 _ W7 hX5 ((cq.refl (·=b8) w5).setCell (yA b8 1) rfl _) hr6);clear hr6;clear hr5 hX5 HTL HCALL HIS
   go_wp2_with (first|(refine li rfl 131 _ _ rfl b8 2 A rfl rfl HTH5.out (by rw[HAA.out.1];exact HI32.out) HAA.out.2 ?_;intro W7 hW7;obtain⟨HO7,HR7,HFIN⟩:=HTL5.out W7 hW7.out;clear hW7)|(refine vk rfl 366 _ rfl b8 rfl 366 C (0,0) _ HR7.out BH rfl (by rw[HCS.out.1];exact HI34.out) ?_)|(refine jC rfl 362 366 _ rfl C rfl NZ HI0.out.1 HI0.out.2.1 HI0.out.2.2.1 dE dE HCS.out.1 ?_)|(refine F0 _ rfl (.tmp 43) (.tmp 45) 362 rfl 0 366 i0 z0 34 56 NZ HI0.out.1 HI0.out.2.1 HI0.out.2.2.1 HI0.out.2.2.2.1 HI0.out.2.2.2.2 dE u5 j (fM ls) rfl (rI (w:=W7) HO7.out _) (yA W7.heap.size 0) 1 1 C.toList rfl (by rw[gf,HCS.out.1]) (NB (dM W7 _)) HCO.out dE (by unfold maxLen;have:=HJN.out;omega) (by have:=HJN.out;omega) (fP _) (W7.heap.size+1) sI ?_;intro g9 cap9 W9 hown9 hgrow9 hat9 hlt9;have HN9:=Hid.mk' (HFIN.out g9 cap9 W9 hown9 hgrow9 hat9);clear hown9 hgrow9 hat9 hlt9))
   go_roundw
   .exact⟨j+1,oM,by go_num,HN9⟩
   exact mS
  ·
   have HIS:Hid (Calls prog 226 #[yP bx] V1 λe w'=>e=.returned (.bool false)/\V1=w'):=by rw[hfj]at hIS;exact hIS
   obtain⟨C,hC⟩:=eX (nB (qt nm 2) 2 (db kx.sum));have hCl:C.toList=gp kx:=by rw[hC,An nm kx.sum 2 (hkx▸el _),hkx];unfold gp nl eG;rw[hfj];rfl
   have hCs:C.size=34:=by rw[<-gf,hCl];exact ef kx (hkx▸el _)
   have HCS:Hid (C.size=34/\True):=⟨hCs,trivial⟩;have HCO:Hid (∀u∈C.toList,u.oneCell'=true):=λu hu=>gR kx u (by rw[<-hCl];exact hu)
   have HCALL:Hid (Calls prog 235 #[yP g,.string dx] V1 λe w'=>e=.returned (.agg A)/\rr V1 U g k N l m r s (N2+17*gU T p (L.take (j+1))) t z B D d has (jH E (cM T has f p ps (L.take (j+1))).1) w'):=hcall.2 hfj;have HTL:Hid (∀w5 W6 W7,rr V1 U g k N l m r s (N2+17*gU T p (L.take (j+1))) t z B D d has (jH E (cM T has f p ps (L.take (j+1))).1) w5->cq (·=b8) w5 W6->W6.heap[b8]?=some (.cells (qt nm 2) 366 (0,0))->W7=W6.setCells b8 2 A.toList->Hid (W7.ownsRow 0 366 34 u5 j (fM ls))/\Hid (W7.heap[b8]?=some (.cells C 366 (0,0)))/\Hid (∀g9 cap9 W9,W9.ownsRow 0 366 34 (.slice (yS g9 0) (j+1) cap9) (j+1) (fM ls++C.toList)->(W7.alloc (.cells C 366)).grownBy W9 u5.ownBlock->(u5.ownBlock=some g9\/g9=W7.heap.size+1)->∃ls U q0 qv,yI w S g k N l m r s (N2+17*gU T p (L.take (j+1))) t z B D b4 d has (jH E (cM T has f p ps (L.take (j+1))).1) ls (.slice (yS g9 0) (j+1) cap9) nv L U q0 qv W9/\ls.length=j+1/\iI (ls.map nI)=(cM T has f p ps (L.take (j+1))).2/\∀x∈ls,x.sum.size=32/\x.name.size<=255)):=by intro w5 W6 W7 hX hs6 hr6 hw7;refine HTAIL.out w5 W7 C hX (hs6.trans (hw7▸ly b8 _ 2 W6)) hCl ?_;rw[hw7,hC,hA'];exact lr b8 _ _ 2 W6 _ hr6
   clear hI hI1 hTV hSV hxn hx hIS hcall hC hCl hCs hfj hkx hA' HTAIL hB1 hr1 hls1 hls2 hls3 hnm hns hbx;go_upto_region 5 with fail
   refine Gj _ nm wr (λV0 HV0=>?_);obtain rfl:V0=V1:=HV0.out.trans hV1.symm;rw[<-hb8];clear HV0 hV1 hb8
   go_wp2_with fail
   refine HIS.out.mono ?_;rintro e w4 ⟨rfl,rfl⟩;clear hrun c1r
   go_wp2_with fail
   refine HCALL.out.mono ?_;rintro e w5 ⟨rfl,hX5⟩;have hr5:=HR5.out w5 hX5;have c51:w5.cell? (yA b8 1)=some (.int .u8 2):=cG hr5;have z51:w5.frozen? (yA b8 1)=false:=fH _ _ _ _ _ hr5;have HTH5:Hid (w5.there b8 2 A.size):=vZ hr5 2 _ (by rw[HAA.out.1];exact cO 34);have HTL5:=Hid.mk' (λW7=>HTL.out w5 _ W7 hX5 (cq.refl (·=b8) w5) hr5);clear hr5 hX5 HTL HCALL HIS
   go_wp2_with (first|(refine li rfl 131 _ _ rfl b8 2 A rfl rfl HTH5.out (by rw[HAA.out.1];exact HI32.out) HAA.out.2 ?_;intro W7 hW7;obtain⟨HO7,HR7,HFIN⟩:=HTL5.out W7 hW7.out;clear hW7)|(refine vk rfl 366 _ rfl b8 rfl 366 C (0,0) _ HR7.out BH rfl (by rw[HCS.out.1];exact HI34.out) ?_)|(refine jC rfl 362 366 _ rfl C rfl NZ HI0.out.1 HI0.out.2.1 HI0.out.2.2.1 dE dE HCS.out.1 ?_)|(refine F0 _ rfl (.tmp 43) (.tmp 45) 362 rfl 0 366 i0 z0 34 56 NZ HI0.out.1 HI0.out.2.1 HI0.out.2.2.1 HI0.out.2.2.2.1 HI0.out.2.2.2.2 dE u5 j (fM ls) rfl (rI (w:=W7) HO7.out _) (yA W7.heap.size 0) 1 1 C.toList rfl (by rw[gf,HCS.out.1]) (NB (dM W7 _)) HCO.out dE (by unfold maxLen;have:=HJN.out;omega) (by have:=HJN.out;omega) (fP _) (W7.heap.size+1) sI ?_;intro g9 cap9 W9 hown9 hgrow9 hat9 hlt9;have HN9:=Hid.mk' (HFIN.out g9 cap9 W9 hown9 hgrow9 hat9);clear hown9 hgrow9 hat9 hlt9))
   go_roundw
   .exact⟨j+1,oM,by go_num,HN9⟩
   exact mS
 obtain rfl:j=n:=oM;obtain⟨ls,U,q0,qv,hI,hls1,hls2,hls3⟩:=HJ.out;obtain⟨tx,htx⟩:=eX ((cM T has f p ps L).2);obtain⟨A,hA⟩:=eX ((db (cV tx)).toArray);have hsv:dL (cV tx)=.agg A:=by rw[hA];rfl
 have HAA:Hid (A.size=32/\A.all (·.oneCell')=true):=⟨by rw[hA,jO,cE,el],Array.all_eq_true_iff_forall_mem.2 (λv hv=>by rw[hA]at hv;exact eA _ v (by simpa using hv))⟩;have HE:=Hid.mk' (HEND.out wr ls u5 nv U q0 qv (by rw[<-HNL.out];exact hI) (by rw[hls1,HNL.out]) (by rw[hls2,HNL.out,NP]) hls3);have HRV2:Hid (rv=.agg A):=by show _=_;rw[HRV.out,HTX.out,<-htx,hsv]
 rw[<-htx,hsv]at HE;rw[<-HRX.out]at HE;clear hI hls1 hls2 hls3 HJ htx hA hsv
 go_wp2_with fail
 refine HE.out.mono ?_;rintro e w5 ⟨rfl,hc5⟩;have HC5:=Hid.mk' hc5;clear hc5 HE
 go_wp2_with fail
 refine HC5.out.mono ?_;rintro e w6 ⟨rfl,hr6,hx6⟩;have HE6:Hid (w6.heap[b4]?=some (.cells fN 131 (0,0))/\∀V7 A,V7=w6.setRow b4 A->RX V7):=⟨hr6,hx6⟩;clear hr6 hx6 HC5
 go_wp2_with (refine cu rfl 131 _ _ rfl b4 A rfl rfl 131 fN HE6.out.1 (by rw[HAA.out.1];exact HI32.out) (by rw[HAA.out.1];rfl) HAA.out.2 ?_;intro V7 hV7)
 refine gh (Bj (p:=4) (ty:=131) rfl _ _ b4 131 A (0,0) _ rfl (by rw[hV7.out];exact ja _ _ _ _ _ _ HE6.out.1) kb rfl (by rw[HAA.out.1];exact HI32.out)) rfl ?_;exact⟨by rw[HRV2.out],HE6.out.2 V7 A hV7.out⟩
theorem xi(d:Nat->Prop)(g e N i j k l m n p q r:Nat)(a:List Value)(has:List Ob)(E:mu)(T:cS)(s t:List ByteArray->Nat)(u:eN T)(c:mV T)(v:1<=E.seq):∀f,MH d g e N i j k l m n p q r a has E T s t f
 |0=>yU d g e N i j k l m n p q r a has E T s t 0 u c v (λf' h=>by omega)
 |f+1=>yU d g e N i j k l m n p q r a has E T s t (f+1) u c v (λf' h=>by
  obtain rfl:f=f':=oM
  exact xi d g e N i j k l m n p q r a has E T s t u c v f)
end
end Go.Proofs.YtapijhhmjjplmaaGreatDoor

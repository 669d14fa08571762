import Derived.Test.YtapijhhmjjplmaaGreatDoorJonce9
namespace Go.Proofs.YtapijhhmjjplmaaGreatDoor
set_option linter.all false
set_option maxRecDepth 100000
set_option maxHeartbeats 4000000
open Go.Proofs.Tryz
variable {uA:Array Value}{y z s:ByteArray}{cut:Int}{x:pp}{l L A p:List ByteArray}{uD:List Deferred}{xs:List Value}{B n k g c m b:Nat}{S:Nat→Prop}{T:cS}{e:TypeId}{v nv:Value}{w w':World}
section
theorem se(h:cA T x.names=none)(p:List ByteArray):cA (T++[x]) p=if p=x.names then some x else cA T p:=by
 unfold cA;rw[Ra];by_cases e:p=x.names
 .rw[dq e,e];unfold cA at h;rw[h];simp
 rw[dj e];have:([x]:List pp).find? (λy=>decide (y.names=p))=none:=by rw[Nw];intro y hy hd;simp at hy;subst hy;simp at hd;exact e hd.symm
 rw[this,Option.or_none]
theorem ki(T:cS)(l:List ByteArray)(d:ByteArray)(p:List ByteArray):cA (jl T l d) p=(cA T p).map (λx=>if p=l then{x with data:=d}else x):=by
 unfold cA jl
 induction T with
 |nil=>rfl
 |cons y r ih=>
  rw[vj,IE,IE];have hn:(if y.names=l then{y with data:=d}else y).names=y.names:=by split<;>rfl
  rw[hn];by_cases e:y.names=p
  .rw[jX e];simp[e]
  rw[lW e];exact ih
theorem ud(T:cS)(l p:List ByteArray):cA (dS T l) p=if p=l then none else cA T p:=by
 unfold cA dS
 induction T with
 |nil=>simp
 |cons y r ih=>
  rw[DL];by_cases e:y.names=l
  .rw[dj (by simpa using e),ih];by_cases ep:p=l
   .rw[dq ep,dq ep]
   rw[dj ep,dj ep,IE,lW (by rw[e];exact λh=>ep h.symm)]
  rw[dq (by simpa using e),IE,ih];by_cases ey:y.names=p
  .have a:p≠l:=by rw[<-ey];exact e
   simp only[dj a,IE,jX ey]
  rw[lW ey,IE,lW ey]
theorem BS(T:cS)(l:List ByteArray)(d:ByteArray):(jl T l d).map (·.names)=T.map (·.names):=by
 unfold jl;rw[NF];apply NG;intro x _;show(if x.names=l then{x with data:=d}else x).names=x.names;split<;>rfl
theorem EA(T:cS)(l:List ByteArray)(d:ByteArray)(p:List ByteArray):dZ (jl T l d) p=dZ T p:=by
 unfold dZ jl
 induction T with
 |nil=>rfl
 |cons y r ih=>
  have hn:(if y.names=l then{y with data:=d}else y).names=y.names:=by split<;>rfl
  rw[vj,DL,DL,hn];split
  .rw[vj,vj,hn,ih]
  exact ih
theorem Ih(h:dD T l=0)(a:l.dropLast≠[]):∃y,cA T l.dropLast=some y/\y.dir=true:=by
 unfold dD at h;split at h
 .rename_i h1;exact absurd h h1
 rename_i h1;split at h
 .cases h
 rename_i h2;have h3:=nH (Decidable.not_not.1 h1) a;rw[Ab]at h3;obtain⟨y,hy⟩:=Option.isSome_iff_exists.1 h3;refine⟨y,hy,?_⟩;unfold eO at h2;rw[hy]at h2;simpa using h2
theorem eN.append(h:eN T)(hv:fp l)(k:l.length<=8)(m:l≠[])(n:dD T l=0)(i:cA T l=none)(j:fZ T l.dropLast=false)(b:Bool)(d:ByteArray)(o:b=true->d=⟨#[]⟩)(g:d.size<=1536):eN (T++[⟨l,b,d⟩]):=by
 have f:∀p y,cA T p=some y->cA (T++[⟨l,b,d⟩]) p=some y:=λp y hy=>by rw[se (x:=⟨l,b,d⟩) i p,dj (λe=>?_),hy];rw[e]at hy;have:cA T l=some y:=hy;rw[i]at this;cases this
 refine⟨λx hx=>?_,?_,λx hx hu=>?_,?_,λx hx=>?_,λx hx=>?_⟩
 .rcases List.mem_append.1 hx with h1|h1
  .exact h.val x h1
  simp at h1;subst h1;exact⟨m,k,hv⟩
 .rw[qA,Rc];refine⟨h.dis,sI,?_⟩;intro a ha c hc e;simp at hc;rw[N1]at ha;obtain⟨x,hx,rfl⟩:=ha;exact vW i x hx (e.trans hc)
 .rcases List.mem_append.1 hx with h1|h1
  .obtain⟨y,hy,g⟩:=h.up x h1 hu;exact⟨y,f _ _ hy,g⟩
  simp at h1;subst h1;obtain⟨y,hy,g⟩:=Ih n hu;exact⟨y,f _ _ hy,g⟩
 .unfold fZ at j;rw[Q3]at j;have:=j.2;simp at this⊢;omega
 .rcases List.mem_append.1 hx with h1|h1
  .exact h.fil x h1
  simp at h1;subst h1;exact o
 rcases List.mem_append.1 hx with h1|h1
 .exact h.big x h1
 simp at h1;subst h1;exact g
theorem eN.set(h:eN T)(b:cA T l=some x)(c:x.dir=false)(d:ByteArray)(f:d.size<=1536):eN (jl T l d):=by
 have hm:∀y∈jl T l d,∃z∈T,y.names=z.names/\y.dir=z.dir/\(y.data=z.data\/(z.names=l/\y.data=d)):=by
  intro y hy;unfold jl at hy;rw[N1]at hy;obtain⟨z,hz,rfl⟩:=hy;refine⟨z,hz,?_⟩;split
  .rename_i e;exact⟨rfl,rfl,.inr ⟨e,rfl⟩⟩
  exact⟨rfl,rfl,.inl rfl⟩
 refine⟨λy hy=>?_,?_,λy hy hu=>?_,?_,λy hy hb=>?_,λy hy=>?_⟩
 .obtain⟨z,hz,e,-⟩:=hm y hy;rw[e];exact h.val z hz
 .rw[BS];exact h.dis
 .obtain⟨z,hz,e,-⟩:=hm y hy;rw[e]at hu⊢;obtain⟨q,hq,a⟩:=h.up z hz hu;rw[ki,hq];refine⟨_,rfl,?_⟩;split
  .exact a
  exact a
 .unfold jl;rw[iF];exact h.len
 .obtain⟨z,hz,e,e2,e3|⟨e3,e4⟩⟩:=hm y hy
  .rw[e3];exact h.fil z hz (e2▸hb)
  have h1:=lT h.dis hz;rw[e3,b]at h1;cases h1;rw[e2,c]at hb;cases hb
 obtain⟨z,hz,e,e2,e3|⟨e3,e4⟩⟩:=hm y hy
 .rw[e3];exact h.big z hz
 rw[e4];exact f
theorem eN.drop(h:eN T)(a:dZ T l=[]):eN (dS T l):=by
 have hm:∀x,x∈dS T l->x∈T/\x.names≠l:=λx hx=>by unfold dS at hx;rw[L5]at hx;exact⟨hx.1,by simpa using hx.2⟩
 refine⟨λx hx=>h.val x (hm x hx).1,?_,λx hx hu=>?_,?_,λx hx=>h.fil x (hm x hx).1,λx hx=>h.big x (hm x hx).1⟩
 .have hs:(dS T l).map (·.names)|>.Sublist (T.map (·.names)):=List.Sublist.map _ List.filter_sublist;exact hs.nodup h.dis
 .obtain⟨y,hy,hd⟩:=h.up x (hm x hx).1 hu;refine⟨y,?_,hd⟩;rw[ud,dj (λe=>?_),hy];have h1:x.names.getLast?.getD ⟨#[]⟩∈dZ T l:=by rw[iS h];rw[<-e,ie (h.val x (hm x hx).1).1,lT h.dis (hm x hx).1];rfl
  rw[a]at h1;cases h1
 unfold dS;exact lZ (KI _ _) h.len
theorem pX(h:(T.map (·.names)).Nodup)(a:cA T l=some x):(dS T l).length+1=T.length:=by
 induction T with
 |nil=>cases a
 |cons y r ih=>
  rw[vj,N3]at h;unfold dS;rw[DL];by_cases e:y.names=l
  .rw[dj (by simpa using e)];have:r.filter (λx=>decide (x.names≠l))=r:=by rw[List.filter_eq_self];intro z hz;simp;intro ez;exact h.1 (List.mem_map.2 ⟨z,hz,ez.trans e.symm⟩)
   rw[this,mY]
  rw[dq (by simpa using e),mY,mY];have:cA r l=some x:=by unfold cA at a⊢;rw[IE,lW e]at a;exact a
  have:=ih h.2 this;unfold dS at this;omega
theorem eN.nil:eN []:=⟨sI,sI,sI,sI,sI,sI⟩
end
section
open Go.RowKit
theorem Gd:(prog.info? 9).map (λi=>(i.zero,i.size,i.bytes))=some (some (.string ⟨#[]⟩),1,16):=kR
theorem Hy(s:ByteArray)(k:Nat)(h:k<s.size):(bl s)[k]?=some s[k]:=by
 show s.data.toList[k]?=_;rw[kX];exact Nt h
theorem vA(s:ByteArray)(k:Nat)(h:k<s.size):((bl s).take (k+1)).all Dt=(((bl s).take k).all Dt&&Dt s[k]):=by
 have h1:k<(bl s).length:=by rw[dO];exact h
 rw[sN h1,List.all_append];have e:(bl s)[k]=s[k]:=by have:=Hy s k h;rw[pI h1]at this;exact kM this
 rw[e,List.all_cons,List.all_nil,Bool.and_true];rfl
theorem nJ(l:List UInt8)(k:Nat)(h:(l.take k).all Dt=false):Bp l=false:=by
 unfold Bp
 have:l.all Dt=false:=by
  cases hl:l.all Dt
  .rfl
  .rw[List.all_eq_true]at hl;have:(l.take k).all Dt=true:=List.all_eq_true.2 λx hx=>hl x (Pr hx)
   rw[h]at this;cases this
 rw[this];rfl
theorem fI(x y:ByteArray):(x.toList==y.toList)=decide (x=y):=by
 rw[FF,FF];by_cases h:x=y
 .rw[jX h,h,beq_self_eq_true]
 rw[lW h,tC];exact λe=>h (ej e)
def Gl(n:Nat):Bool:=(decide (97<=n)&&decide (n<=122))||(decide (48<=n)&&decide (n<=57))||decide (n=46)||decide (n=95)||decide (n=45)
theorem K5(b:UInt8):Dt b=Gl b.toNat:=rfl
theorem qY(n:Nat):(Gl n=true/\((97<=n/\n<=122)\/(48<=n/\n<=57)\/n=46\/n=95\/n=45))\/(Gl n=false/\(n<45\/n=47\/(58<=n/\n<=94)\/n=96\/123<=n)):=by
 cases h:Gl n
 .refine .inr ⟨rfl,?_⟩;simp[Gl]at h;omega
 refine .inl ⟨rfl,?_⟩;simp[Gl]at h;omega
theorem EB(n:Nat)(w:World):
  Calls prog 228 #[.int .i32 n] w λe w'=>e=.returned (.bool (Gl n))/\w=w':=by
 obtain⟨b,hb⟩:=eX (Gl n);rw[<-hb];have HB:=hD hb;clear hb;rcases qY n with⟨h1,h2⟩|⟨h1,h2⟩
 .have HN:=hD (HB.trans h1);clear h1 HB;rcases h2 with⟨h2,h3⟩|⟨h2,h3⟩|h2|h2|h2
  all_goals
   go_enter func228,ntmps228
   go_wp2
   go_ret;refine⟨?_,rfl⟩;rw[HN.out]
   first
    |rfl
    |(show Ending.returned (Value.bool (decide ((n:Int)<=122)))=_;rw[jX (by omega)])
    |(show Ending.returned (Value.bool (decide ((n:Int)<=57)))=_;rw[jX (by omega)])
    |(simp[*])
 have HN:=hD (HB.trans h1);have e1:((n:Int)==46)=false:=by rw[tC];omega
 have e2:((n:Int)==95)=false:=by rw[tC];omega
 have e3:((n:Int)==45)=false:=by rw[tC];omega
 clear h1 HB;rcases h2 with h2|h2|⟨h2,h3⟩|h2|h2
 all_goals
  go_enter func228,ntmps228
  go_wp2
  go_ret;refine⟨?_,rfl⟩;rw[HN.out]
  first
   |rfl
   |(simp[*];try omega)
theorem sj(s:ByteArray)(w:World)(q:s.size<=1000000):
  Calls prog 157 #[.string s] w λe w'=>e=.returned (.bool (yF s))/\Below w.heap.size w w':=by
 have p:(s.size:Int)<=1000000:=oM;have o:=mZ;by_cases h1:s.size<1
 .have HN:Hid (yF s=false):=by show Bp (bl s)=_;unfold Bp;rw[dO,lW (show¬1<=s.size by omega)];simp
  go_enter func157,ntmps157
  go_wp2
  go_ret;exact⟨by rw[HN.out];rfl,dw _ _⟩
 by_cases h2:16<s.size
 .have HN:Hid (yF s=false):=by show Bp (bl s)=_;unfold Bp;rw[dO,lW (show¬s.size<=16 by omega)];simp
  go_enter func157,ntmps157
  go_wp2
  go_ret;exact⟨by rw[HN.out];rfl,dw _ _⟩
 have d:Hid (∀k,Below w.heap.size w (w.iter s k)):=λk=>(dw _ w).alloc (cO _) _
 have f:Hid (∀n w,Calls prog 228 #[.int .i32 (n:Nat)] w λe w'=>e=.returned (.bool (Gl n))/\w=w'):=λn w=>EB n w
 go_enter func157,ntmps157
 go_wp2
 go_loopw [] (λwr=>∃k:Nat,k<=s.size/\wr=w.iter s k/\Hid (((bl s).take k).all Dt=true)) (λwr=>s.size-wr.iterPos w.heap.size)
 .exact⟨0,fP _,rfl,rfl⟩
 obtain⟨k,hk,rfl,Hk⟩:=hrel;by_cases a:k<s.size
 .have HT:=vA s k a;by_cases g:(s[k]).toNat<128
  .have b:∀ty,(Instr.next (yP w.heap.size) true ty).run prog (w.iter s k)=.ok (.tuple #[.bool true,.int .i64 k,.int .i32 (s[k]).toNat]) (w.iter s (k+1)):=λty=>run_next_ascii w s k ty a g
   obtain⟨n,hn⟩:=eX ((s[k]).toNat);rw[K5,<-hn]at HT;rw[<-hn]at b;cases hok:Gl n
   .have HN:Hid (yF s=false):=nJ _ (k+1) (by rw[HT,hok,Bool.and_false]);have HC:Hid (∀w,Calls prog 228 #[.int .i32 (n:Nat)] w λe w'=>e=.returned (.bool false)/\w=w'):=λw=>by rw[<-hok];exact f n w
    clear HT hok hn
    go_wp2_with (go_at_call 228;refine(HC _).mono ?_;rintro e w1 ⟨rfl,rfl⟩)
    go_ret;exact⟨by rw[HN.out];rfl,d _⟩
   have HN:Hid (((bl s).take (k+1)).all Dt=true):=by show _=_;rw[HT,Hk.out,hok];rfl
   have HC:Hid (∀w,Calls prog 228 #[.int .i32 (n:Nat)] w λe w'=>e=.returned (.bool true)/\w=w'):=λw=>by rw[<-hok];exact f n w
   clear HT hok hn Hk
   go_wp2_with (go_at_call 228;refine(HC _).mono ?_;rintro e w1 ⟨rfl,rfl⟩)
   go_roundw
   .exact⟨k+1,oM,rfl,HN⟩
   (simp;try omega)
  have hd:=decode_high s k a oM;have b:∀ty,(Instr.next (yP w.heap.size) true ty).run prog (w.iter s k)=_:=λty=>run_next_any w s k ty a
  obtain⟨n,hn⟩:=eX ((Utf8.decode s k).1);obtain⟨m,hm⟩:=eX ((Utf8.decode s k).2);rw[<-hn,<-hm]at b;rw[<-hn]at hd
  have i:Gl n=false:=by
   rcases qY n with⟨-,h⟩|⟨h,-⟩
   .omega
   .exact h
  have j:Dt s[k]=false:=by
   rw[K5];rcases qY s[k].toNat with⟨-,h⟩|⟨h,-⟩
   .omega
   .exact h
  have HN:Hid (yF s=false):=nJ _ (k+1) (by rw[HT,j,Bool.and_false]);have HC:Hid (∀w,Calls prog 228 #[.int .i32 (n:Nat)] w λe w'=>e=.returned (.bool false)/\w=w'):=λw=>by rw[<-i];exact f n w
  clear HT i j hn hm hd
  go_wp2_with (go_at_call 228;refine(HC _).mono ?_;rintro e w1 ⟨rfl,rfl⟩)
  go_ret;exact⟨by rw[HN.out];rfl,d _⟩
 have b:∀ty,(Instr.next (yP w.heap.size) true ty).run prog (w.iter s k)=_:=λty=>run_next_end w s k ty a
 have l:k=s.size:=oM;have c:(bl s).all Dt=true:=by have:=Hk;rw[pK (by rw[dO];omega)]at this;exact this
 have HN:Hid (yF s=true):=by show Bp (bl s)=_;unfold Bp;rw[c,dO,jX (show 1<=s.size by omega),jX (show s.size<=16 by omega)];rfl
 clear c l
 go_wp2
 go_ret;exact⟨by rw[HN.out];rfl,d _⟩
theorem cQ(h:w.ownsRow B e k v n xs):∃ao c,v=.slice ao n c:=by
 obtain⟨-,h2|⟨g,a,b,hv,-⟩⟩:=h
 .exact⟨none,0,by rw[h2.2,h2.1]⟩
 exact⟨_,a,hv⟩
theorem Ht{x:ByteArray}(h:w.ownsRow B e 1 v (l.length+1) (em l++[.string x])):Hid (w.ownsRow B e 1 v (l++[x]).length (em (l++[x]))):=by
 have e1:(l++[x]).length=l.length+1:=sI;have e2:em (l++[x])=em l++[.string x]:=by simp[em]
 show World.ownsRow _ _ _ _ _ _ _;rw[e1,e2];exact h
theorem vf:∀(l:List ByteArray),fp l->(dy l).size<=17*l.length:=by
 intro l
 suffices h:∀l:List ByteArray,fp l.reverse->(dy l.reverse).size<=17*l.length by intro hv;have:=h l.reverse;rw[PT,List.length_reverse]at this;exact this hv
 intro l
 induction l with
 |nil=>intro _;exact cO _
 |cons n r ih=>
  intro hv;rw[PV]at hv⊢;have h1:=ih (λx hx=>hv x (by simp at hx⊢;exact .inl hx));have h2:=io (hv n sI);rw[l9];unfold jn;split
  .simp;omega
  rw[lY,lY,mY];show _+1+_<=_;omega
def je(w:World)(nv:Value)(l:List ByteArray):Prop:=(l=[]/\∃ao c,nv=.slice ao 0 c)\/∃g c,nv=.slice (yS g 0) l.length c/\g<w.heap.size/\∀j (hj:j<l.length),w.cell? (yA g j)=some (.string l[j])
theorem je.of_own(h:w.ownsRow B 9 1 nv l.length (em l)):je w nv l:=by
 by_cases h0:0<l.length
 .obtain⟨g,a,hv,-,hc,-⟩:=eP.open (S:=λ_=>True) (xs:=em l) ⟨ii h (fP _),λ_ _=>trivial⟩ h0;refine .inr ⟨g,a,hv,(h.lt g (by rw[hv];rfl)).2,λj hj=>?_⟩;rw[hc j (by rw[iT];exact hj)];simp[em]
 have e:=OR (Nat.eq_zero_of_not_pos h0);subst e;obtain⟨ao,c,hv⟩:=cQ h;exact .inl ⟨rfl,ao,c,hv⟩
theorem BR(a:k<l.length):eB T (l.take k) (l.drop k)=if eO T (l.take k)then 7 else if(cA T (l.take (k+1))).isNone then 6 else eB T (l.take (k+1)) (l.drop (k+1)):=by
 rw[OC a];have e:l.take k++[l[k]]=l.take (k+1):=(sN a).symm
 conv=>lhs;unfold eB
 rw[e]
theorem fp.dropLast(h:fp l):fp l.dropLast:=λn hn=>h n ((List.dropLast_sublist l).subset hn)
theorem je.init(h:je w (.slice (yS g 0) l.length c) l)(a:l≠[])(n:Nat)(b:n+1=l.length):je w (.slice (yS g 0) n c) l.dropLast:=by
 rcases h with⟨h,-⟩|⟨g',c',hv,hg,hc⟩
 .exact absurd h a
 cases hv;refine .inr ⟨g,c,by rw[Ot,<-b];rfl,hg,λj hj=>?_⟩;rw[Ot]at hj;rw[hc j (by omega),List.getElem_dropLast]
def ln(q:List UInt8)(m:Nat)(cut:Int):Prop:=(cut= -1/\∀j,j<m->q[j]?≠some 47)\/∃c:Nat,cut=(c:Int)/\c<m/\q[c]?=some 47/\∀j,c<j->j<m->q[j]?≠some 47
theorem ln.start(q:List UInt8):ln q 0 (-1):=.inl ⟨rfl,λ_ h=>absurd h (KE _)⟩
theorem ln.hit{q:List UInt8}(h:q[m]?=some 47):ln q (m+1) m:=.inr ⟨m,rfl,oM,h,λj h1 h2=>by omega⟩
theorem ln.miss{q:List UInt8}(h:ln q m cut)(a:q[m]?≠some 47):ln q (m+1) cut:=by
 rcases h with⟨e,h⟩|⟨c,e,h1,h2,h3⟩
 .exact .inl ⟨e,λj hj=>by
   rcases Fc j m with h'|h'
   .exact h j h'
   have:j=m:=oM
   subst this;exact a⟩
 exact .inr ⟨c,e,oM,h2,λj h4 h5=>by
  rcases Fc j m with h'|h'
  .exact h3 j h4 h'
  have:j=m:=oM
  subst this;exact a⟩
def eF(x:List ByteArray):ByteArray:=x.getLast?.getD ⟨#[]⟩
theorem CH{x:List ByteArray}(hv:fp x)(a:x≠[]):(x.dropLast=[]/\dy x=eF x)\/(x.dropLast≠[]/\dy x=dy x.dropLast++m8++eF x):=by
 have e:=ie a;by_cases hd:x.dropLast=[]
 .refine .inl ⟨hd,?_⟩
  conv=>lhs;rw[<-e,hd]
  rw[Ab];rfl
 refine .inr ⟨hd,?_⟩
 conv=>lhs;rw[<-e]
 rw[l9];unfold jn;have:=(jx x.dropLast hv.dropLast).2 hd;rw[dj (by omega)];rfl
theorem oA{x:List ByteArray}(a:x≠[]):eF x∈x:=by
 unfold eF;rw[QK a];exact List.getLast_mem a
theorem Hr{x:List ByteArray}(hv:fp x)(f:x≠[]){q:ByteArray}(i:q=dy x)(h:ln (bl q) q.size cut):
  (cut= -1/\x.dropLast=[]/\q=eF x)\/∃c:Nat,cut=(c:Int)/\c<q.size/\q.extract 0 c=dy x.dropLast/\q.extract (c+1) q.size=eF x:=by
 have b:=uW (hv (eF x) (oA f));rcases CH hv f with⟨hd,hj⟩|⟨hd,hj⟩
 .rw[<-i]at hj;rcases h with⟨e,h⟩|⟨c,e,h1,h2,h3⟩
  .exact .inl ⟨e,hd,hj⟩
  rw[hj]at h2;exact absurd rfl (b 47 (PC h2))
 rw[<-i]at hj;have hb:bl q=bl (dy x.dropLast)++47::bl (eF x):=by rw[hj,eQ,eQ];show _++[47]++_=_;simp
 obtain⟨A,hA⟩:=eX (bl (dy x.dropLast));rw[<-hA]at hb;have hz:q.size=A.length+1+(bl (eF x)).length:=by rw[<-dO,hb];simp;omega
 have a:(bl q)[A.length]?=some 47:=by rw[hb];simp
 have d:∀j,A.length<j->(bl q)[j]?≠some 47:=λj hj e=>by rw[hb,F8 (by omega)]at e;obtain⟨t,ht⟩:∃t,j-A.length=t+1:=⟨j-A.length-1,oM⟩;rw[ht,A6]at e;exact b 47 (PC e) rfl
 rcases h with⟨e,h⟩|⟨c,e,h1,h2,h3⟩
 .exact absurd a (h _ oM)
 have hc:c=A.length:=by
  rcases Nat.lt_trichotomy c A.length with h'|h'|h'
  .exact absurd a (h3 _ h' oM)
  .exact h'
  exact absurd h2 (d c h')
 subst hc;refine .inr ⟨_,e,oM,?_,?_⟩
 .apply ej;rw[cP,hb,<-hA];simp
 apply ej;rw[cP,hb,hz];simp
structure nD (L A B:List ByteArray) (y:ByteArray):Prop where
 eq:A++B=L
 ord:L.Pairwise (λa b=>rm a b=true)
 ge:∀b∈B,rm y b=true
theorem nD.start(h:L.Pairwise (λa b=>rm a b=true))(y:ByteArray):nD L L [] y:=⟨CO _,h,sI⟩
theorem nD.down{B:List ByteArray}(h:nD L (A++[z]) B y)(a:rm y z=true):nD L A (z::B) y:=
 ⟨by rw[<-h.eq];simp,h.ord,λb hb=>by
  rcases List.mem_cons.1 hb with rfl|hb
  .exact a
  exact h.ge b hb⟩
theorem nD.done{B:List ByteArray}(h:nD L A B y)(d:A=[]\/∃A' z,A=A'++[z]/\rm z y=true):(A++y::B).Pairwise (λa b=>rm a b=true)/\(A++y::B).Perm (L++[y]):=by
 refine⟨?_,?_⟩
 .have ho:=h.ord;rw[<-h.eq,List.pairwise_append]at ho;rw[List.pairwise_append,P6];refine⟨ho.1,⟨h.ge,ho.2.1⟩,λa ha b hb=>?_⟩;rcases List.mem_cons.1 hb with rfl|hb
  .rcases d with rfl|⟨A',z,rfl,hz⟩
   .cases ha
   rcases List.mem_append.1 ha with h1|h1
   .have:=(List.pairwise_append.1 ho.1).2.2 a h1 z sI;exact wn _ _ _ this hz
   simp at h1;rw[h1];exact hz
  exact ho.2.2 a ha b hb
 rw[<-h.eq];exact(List.perm_middle.trans (List.perm_append_singleton y (A++B)).symm)
theorem tG(T:cS)(p:List ByteArray)(k:Nat)(a:k<T.length):dZ (T.take (k+1)) p=dZ (T.take k) p++(if T[k].names.dropLast=p then[eF T[k].names]else[]):=by
 unfold dZ;rw[sN a,OB,qA,DL];congr 1;by_cases h:T[k].names.dropLast=p
 .rw[dq (by simpa using h),dq h];rfl
 rw[dj (by simpa using h),dj h];rfl
theorem Nm(h:w.ownsRow 0 e k v n xs)(d:∀g,v.ownBlock=some g->B<=g):w.ownsRow B e k v n xs:=by
 obtain⟨h1,h2|⟨g,b,a,hv,hB,hr⟩⟩:=h
 .exact⟨h1,.inl h2⟩
 exact⟨h1,.inr ⟨g,b,a,hv,d g (by rw[hv];rfl),hr⟩⟩
theorem Du(h:w.ownsRow B 9 1 (.slice (yS g 0) l.length c) l.length (em l))(j:Nat)(y:ByteArray):(w.setCell (yA g j) (.string y)).ownsRow B 9 1 (.slice (yS g 0) (l.set j y).length c) (l.set j y).length (em (l.set j y)):=by
 have h1:=eP.set (S:=λ_=>True) (⟨ii h (fP _),λ_ _=>trivial⟩) j (.string y);have e:(em l).set j (.string y)=em (l.set j y):=by simp[em,Ps]
 rw[e]at h1;rw[KV];exact Nm h1.1 (fA h)
theorem Ke(A B:List ByteArray)(y z:ByteArray):((A++[z]++y::B).set (A.length+1) z).set A.length y=A++y::z::B:=by
 rw[Ka _ _ (by simp)];simp
theorem jG:∀(x y:List UInt8),Op.bytesLess x y=decide (x<y)
 |[],[]=>by simp[Op.bytesLess]
 |_::_,[]=>by simp[Op.bytesLess]
 |[],_::_=>by simp[Op.bytesLess]
 |a::x,b::y=>by
  rw[Op.bytesLess,jG x y];by_cases h:a<b
  .have:a::x<b::y:=List.cons_lt_cons_iff.2 (.inl h);simp[h,this]
  by_cases he:a=b
  .subst he
   have:(a::x<a::y)=(x<y):=by
    apply propext;rw[List.cons_lt_cons_iff];constructor
    .rintro(h'|h')
     .exact absurd h' h
     exact h'.2
    intro h';exact .inr ⟨rfl,h'⟩
   simp[this]
  have:¬a::x<b::y:=by
   rw[List.cons_lt_cons_iff];rintro(h'|h')
   .exact h h'
   exact he h'.1
  simp[h,he,this]
theorem Hx(h:Op.bytesLess y.toList z.toList=true):rm y z=true:=by
 rw[jG,EP,FF,FF]at h;unfold rm;rw[EP];exact List.le_of_lt h
theorem E5(h:Op.bytesLess y.toList z.toList=false):rm z y=true:=by
 rw[jG,PE,FF,FF]at h;unfold rm;rw[EP];exact h
theorem we(h:w.ownsRow B 9 1 v l.length (em l))(b:l≠[]):∃g c,v=.slice (yS g 0) l.length c/\B<=g/\(∀j (hj:j<l.length),w.cell? (yA g j)=some (.string l[j]))/\∀j,w.frozen? (yA g j)=false:=by
 obtain⟨g,a,hv,-,hc,hf⟩:=eP.open (S:=λ_=>True) (xs:=em l) ⟨ii h (fP _),λ_ _=>trivial⟩ (List.length_pos_iff.2 b);refine⟨g,a,hv,fA h g (by rw[hv];rfl),λj hj=>?_,hf⟩;rw[hc j (by rw[iT];exact hj)];simp[em]
structure ky (T:cS) (p:List ByteArray) (k:Nat) (L:List ByteArray):Prop where
 ord:L.Pairwise (λa b=>rm a b=true)
 perm:L.Perm (dZ (T.take k) p)
theorem ky.len(h:ky T p k L):L.length<=k:=by
 rw[h.perm.length_eq];refine lZ (nz _ _) ?_;rw[vx];exact Nat.min_le_left _ _
theorem ky.skip(h:ky T p k L)(a:k<T.length)(b:T[k].names.dropLast≠p):ky T p (k+1) L:=⟨h.ord,by rw[tG T p k a,dj b,CO];exact h.perm⟩
theorem ky.more{B:List ByteArray}(h:ky T p k L)(b:k<T.length)(c:T[k].names.dropLast=p)(d:y=eF T[k].names)(e:nD L A B y)(a:A=[]\/∃A' z,A=A'++[z]/\rm z y=true):ky T p (k+1) (A++y::B):=by
 obtain⟨h1,h2⟩:=e.done a;refine⟨h1,h2.trans ?_⟩;rw[tG T p k b,dq c,<-d];exact h.perm.append_right _
theorem vC(q:ByteArray):q.extract 0 q.size=q:=by
 apply ej;rw[cP,FH,pK (by rw[dO];omega)]
def IY(w:World)(L:List ByteArray)(y:ByteArray)(v:Value)(kv:Value)(wr:World):Prop:=∃A B,kv=.int .i64 A.length/\A.length<=256/\nD L A B y/\wr.ownsRow w.heap.size 9 1 v (A++y::B).length (em (A++y::B))/\Below w.heap.size w wr
def GZ(w:World)(L:List ByteArray)(e:Ending)(w':World):Prop:=∃v,e=.returned v/\w'.ownsRow w.heap.size 9 1 v L.length (em L)/\Below w.heap.size w w'
def da(f:List ByteArray->Nat)(s:ByteArray):Nat:=match cZ s with
 |none=>5
 |some []=>5
 |some l=>f l
def dz(T:cS)(f:List ByteArray->cS)(s:ByteArray):cS:=match cZ s with
 |none=>T
 |some []=>T
 |some l=>f l
theorem ij{f:List ByteArray->Nat}(h:cZ s=none):da f s=5:=by unfold da;rw[h]
theorem iW{f:List ByteArray->Nat}(h:cZ s=some []):da f s=5:=by unfold da;rw[h]
theorem ee{f:List ByteArray->Nat}(h:cZ s=some l)(a:l≠[]):da f s=f l:=by
 unfold da;rw[h]
 cases l with
 |nil=>exact absurd rfl a
 |cons _ _=>rfl
theorem iu{f:List ByteArray->cS}(h:cZ s=none):dz T f s=T:=by unfold dz;rw[h]
theorem iV{f:List ByteArray->cS}(h:cZ s=some []):dz T f s=T:=by unfold dz;rw[h]
theorem eL{f:List ByteArray->cS}(h:cZ s=some l)(a:l≠[]):dz T f s=f l:=by
 unfold dz;rw[h]
 cases l with
 |nil=>exact absurd rfl a
 |cons _ _=>rfl
theorem uw{d:ByteArray}(a:1536<d.size):iG T l d=11/\ia T l d=T:=by
 have e:iG T l d=11:=by unfold iG;rw[dq a]
 exact⟨e,by unfold ia;rw[dq (by rw[e];decide)]⟩
theorem wI{d:ByteArray}(f:¬1536<d.size)(a:dD T l≠0):iG T l d=dD T l/\ia T l d=T:=by
 have e:iG T l d=dD T l:=by unfold iG;rw[dj f,dq a]
 exact⟨e,by unfold ia;rw[dq (e▸a)]⟩
theorem vP{d:ByteArray}(f:¬1536<d.size)(g:dD T l=0)(a:cA T l=some x):iG T l d=(if x.dir then 7 else 0)/\ia T l d=(if x.dir then T else jl T l d):=by
 have e:iG T l d=(if x.dir then 7 else 0):=by unfold iG;rw[dj f,dj (by rw[g];simp),a]
 refine⟨e,?_⟩;unfold ia;rw[e,a];cases x.dir<;>rfl
theorem vT{d:ByteArray}(f:¬1536<d.size)(g:dD T l=0)(a:cA T l=none):iG T l d=(if fZ T l.dropLast then 10 else 0)/\ia T l d=(if fZ T l.dropLast then T else T++[⟨l,false,d⟩]):=by
 have e:iG T l d=(if fZ T l.dropLast then 10 else 0):=by unfold iG;rw[dj f,dj (by rw[g];simp),a]
 refine⟨e,?_⟩;unfold ia;rw[e,a];cases fZ T l.dropLast<;>rfl
theorem jk{a:Nat}{x y z:cS}(d:a=b)(e:x=y)(f:b=c)(g:y=z):Hid (a=c/\x=z):=⟨d.trans f,e.trans g⟩
theorem cN(h:Below w.heap.size w w'):cq S w w':=⟨h.os,h.tape,h.output,h.size,λk hk _=>h.block k hk⟩
theorem ip(w:World)(x y z:Value)(t:TypeId):∀j v,[x,y,z][j]?=some v->(w.alloc (.cells #[x,y,z] t)).cell? (((yA w.heap.size 0):Addr).add j)=some v:=by
 intro j v hj;have e1:((yA w.heap.size 0):Addr).add j=(yA w.heap.size j):=by unfold Addr.add;split<;>simp_all
 rw[e1,cG (dM w _)];simpa using hj
theorem Ak(T:cS)(l:List ByteArray)(d:ByteArray):(jl T l d).length=T.length:=by unfold jl;rw[iF]
theorem Bu(h:da (dD T) s≠0):da (eY T) s=da (dD T) s/\dz T (ff T) s=T:=by
 cases hp:cZ s with
 |none=>exact⟨by rw[ij hp,ij hp],iu hp⟩
 |some l=>
  by_cases h0:l=[]
  .subst h0;exact⟨by rw[iW hp,iW hp],iV hp⟩
  rw[ee hp h0]at h⊢;rw[ee hp h0,eL hp h0];have e:eY T l=dD T l:=by unfold eY;rw[dq h]
  exact⟨e,by unfold ff;rw[dq (e▸h)]⟩
theorem Gk(a:cZ s=some l)(b:l≠[])(c:dD T l=0):
  ((cA T l).isSome->da (eY T) s=8/\dz T (ff T) s=T)/\(cA T l=none->da (eY T) s=(if fZ T l.dropLast then 10 else 0)/\dz T (ff T) s=(if fZ T l.dropLast then T else T++[⟨l,true,⟨#[]⟩⟩])):=by
 rw[ee a b,eL a b];refine⟨λh=>?_,λh=>?_⟩
 .have e:eY T l=8:=by unfold eY;rw[dj (by rw[c];simp),dq h]
  exact⟨e,by unfold ff;rw[dq (by rw[e];decide)]⟩
 have e:eY T l=(if fZ T l.dropLast then 10 else 0):=by unfold eY;rw[dj (by rw[c];simp),dj (by rw[h];simp)]
 refine⟨e,?_⟩;unfold ff;rw[e];cases fZ T l.dropLast<;>rfl
theorem zl(h:da (dD T) s≠0):da (dV T) s=da (dD T) s/\dz T (d9 T) s=T:=by
 cases hp:cZ s with
 |none=>exact⟨by rw[ij hp,ij hp],iu hp⟩
 |some l=>
  by_cases h0:l=[]
  .subst h0;exact⟨by rw[iW hp,iW hp],iV hp⟩
  rw[ee hp h0]at h⊢;rw[ee hp h0,eL hp h0];have e:dV T l=dD T l:=by unfold dV;rw[dq h]
  exact⟨e,by unfold d9;rw[dq (e▸h)]⟩
theorem EQ(b:cZ s=some l)(c:l≠[])(a:dD T l=0):
  (cA T l=none->da (dV T) s=6/\dz T (d9 T) s=T)/\(∀x,cA T l=some x->(dZ T l≠[]->da (dV T) s=9/\dz T (d9 T) s=T)/\(dZ T l=[]->da (dV T) s=0/\dz T (d9 T) s=dS T l)):=by
 rw[ee b c,eL b c];refine⟨λh=>?_,λx h=>⟨λhk=>?_,λhk=>?_⟩⟩
 .have e:dV T l=6:=by unfold dV;rw[dj (by rw[a];simp),dq (by rw[h];rfl)]
  exact⟨e,by unfold d9;rw[dq (by rw[e];decide)]⟩
 .have e:dV T l=9:=by unfold dV;rw[dj (by rw[a];simp),dj (by rw[h];simp),dq hk]
  exact⟨e,by unfold d9;rw[dq (by rw[e];decide)]⟩
 have e:dV T l=0:=by unfold dV;rw[dj (by rw[a];simp),dj (by rw[h];simp),dj (by rw[hk];simp)]
 exact⟨e,by unfold d9;rw[dj (by rw[e];simp)]⟩
theorem At(T:cS)(s:ByteArray):da (dD T) s<=7:=by
 unfold da;split
 .decide
 .decide
 .rename_i l _ _;unfold dD;have:=fT T l.dropLast [];split
  .omega
  .split<;>omega
def oN(T:cS)(l:List ByteArray):Nat:=if eB T [] l≠0 then eB T [] l else match cA T l with
 |some x=>if x.dir then 7 else 0
 |none=>7
def qx(T:cS)(s:ByteArray):Nat:=match cZ s with
 |none=>5
 |some l=>oN T l
def getD(T:cS)(s:ByteArray):ByteArray:=if qx T s≠0 then⟨#[]⟩else match cZ s with
 |none=>⟨#[]⟩
 |some l=>match cA T l with
  |some x=>x.data
  |none=>⟨#[]⟩
theorem Iq(h:cZ s=none):qx T s=5/\getD T s=⟨#[]⟩:=by
 have e:qx T s=5:=by unfold qx;rw[h]
 exact⟨e,by unfold getD;rw[dq (by rw[e];decide)]⟩
def vN(T:cS)(l:List ByteArray):Nat:=if eB T [] l≠0 then eB T [] l else if eO T l then 7 else 0
def nM(T:cS)(p:List ByteArray)(n:ByteArray):ByteArray×Bool×Nat:=match cA T (p++[n])with
 |some x=>(n,x.dir,x.data.size)
 |none=>(n,false,0)
def sy(T:cS)(p:List ByteArray):List (ByteArray×Bool×Nat):=(dh T p).map (nM T p)
def I9(e:ByteArray×Bool×Nat):List Value:=[.string e.1,.bool e.2.1,.int .i64 e.2.2]
def eE(l:List (ByteArray×Bool×Nat)):List Value:=l.flatMap I9
theorem xu{t:TypeId}{R:List (ByteArray×Bool×Nat)}{x:ByteArray×Bool×Nat}(h:w.ownsRow B t 3 v (R.length+1) (eE R++I9 x)):Hid (w.ownsRow B t 3 v (R++[x]).length (eE (R++[x]))):=by
 have e1:(R++[x]).length=R.length+1:=sI;have e2:eE (R++[x])=eE R++I9 x:=by simp[eE]
 show World.ownsRow _ _ _ _ _ _ _;rw[e1,e2];exact h
theorem C4(Q:Exit->Act->World->Prop)(S:World->Prop)(q r kc i:Nat)(kd:Int)(o:UInt8)(tx nm s X:ByteArray)(w:World)(k:S w.drew)(l:∀V O,S V->S (V.alloc O))(t:(i:Int)<r)(hc:∀V,S V->V.cell? (yA q i)=some (.string nm))(u:IntKind.u8.wrap (nm.size:Int)=(nm.size:Int))(p:X=⟨#[o,UInt8.ofNat nm.size]⟩)(n:kd=(o.toNat:Int))(hz:nm.size<=255)(x:tx.size+nm.size+s.size<=1000000)(m:∀V,V=w.drew.alloc (.cells #[.int .u8 kd,.int .u8 nm.size] 5)->∀uB,uP uA uB [11,114,115,116,117,118,119,120,121,122,123,124,125,126,127,128,129,130,131] [(11,.string (tx++X++nm++s))]->Q .normal ⟨uB,uD⟩ V)(hz:uA.size=135:=by rfl)(s10:gD uA 10=.slice (yS q 0) r kc:=by rfl)(s11:gD uA 11=.string tx:=by rfl)(s12:gD uA 12=.int .i64 i:=by rfl)(s14:gD uA 14=.string s:=by rfl)(s15:gD uA 15=.int .u8 kd:=by rfl):(Code.region 26 (rg f52 26) true).wp prog Q ⟨uA,uD⟩ w:=by
 have a:∀(V:World)(B:Nat),V.heap[B]?=some (.cells #[.int .u8 kd,.int .u8 nm.size] 5 (0,0))->(convert 134 9 (.slice (yS B 0) 2 2)).run prog V=.ok (.string X) V:=by
  intro V B hV;rw[p];refine KH (P:=prog) _ 134 9 5 (yA B 0) 2 [o,UInt8.ofNat nm.size] yE I0 xV ?_;have hb:(UInt8.ofNat nm.size).toNat=nm.size:=by rw[MJ];omega
  have d:V.cell? (yA B 0)=some (.int .u8 kd):=cG hV;have c:V.cell? (yA B 1)=some (.int .u8 nm.size):=cG hV;intro j hj
  match j,hj with
  |0,_=>simp[Addr.add,d,n]
  |1,_=>simp[Addr.add,hb,c]
 have b:X.size=2:=by rw[p];rfl
 have h:tx.size+X.size<=9223372036854775807:=oM;have f:tx.size+X.size+nm.size<=9223372036854775807:=oM;have g:tx.size+X.size+nm.size+s.size<=9223372036854775807:=oM;clear p n b;refine rH S 19 k (λR hQ hn=>?_);refine tK hQ 0 k ?_;refine tK hQ 1 k ?_;refine tK hQ 2 k ?_;refine tK hQ 3 k ?_;refine tK hQ 4 k ?_;refine tK hQ 5 k ?_ (v:=.string nm) (hv:=by intro V hV;have q0:=hc V hV;go_simp);refine tK hQ 6 k ?_;refine tK hQ 7 k ?_;refine tK hQ 11 k ?_;refine tK hQ 12 k ?_;refine tK hQ 13 k ?_;refine tK hQ 14 k ?_ (v:=.string nm) (hv:=by intro V hV;have q0:=hc V hV;go_simp);refine tK hQ 16 k ?_;refine rO 8 (λK hK=>?_);go_simp;refine hK.out _ _ (l _ _ k) (λ_=>?_)
 try simp only[Act.put]
 refine rO 9 (λK hK=>?_);have e:=a ((w.alloc (.cells #[.int .u8 kd,.int .u8 nm.size] 5)).drew) w.heap.size (dM w _);go_simp;refine hK.out _ _ (l _ _ k) (λ_=>?_)
 try simp only[Act.put]
 refine tK hQ 10 (l _ _ k) ?_ (v:=.string (tx++X));refine tK hQ 15 (l _ _ k) ?_ (v:=.string (tx++X++nm));refine tK hQ 17 (l _ _ k) ?_ (v:=.string (tx++X++nm++s));refine tK hQ 18 (l _ _ k) ?_ (v:=.string (tx++X++nm++s));exact rD (hn (m _ rfl _ uQ))
end
end Go.Proofs.YtapijhhmjjplmaaGreatDoor

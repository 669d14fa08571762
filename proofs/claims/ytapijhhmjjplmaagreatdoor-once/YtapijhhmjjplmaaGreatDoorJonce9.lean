import Derived.Test.YtapijhhmjjplmaaGreatDoorJonce2
namespace Go.Proofs.YtapijhhmjjplmaaGreatDoor
set_option linter.all false
set_option maxRecDepth 100000
set_option maxHeartbeats 4000000
open Go.Proofs.Tryz
variable {s t:ByteArray}{l p:List ByteArray}{ws:List Nat}{xs:List Value}{B b n k g cap:Nat}{S:Nat→Prop}{e:TypeId}{v:Value}{w w' W:World}
section
open Go.RowKit
theorem GU(u v:Nat):(u^^^v)/2=(u/2)^^^(v/2):=by
 have h:=Nat.shiftRight_xor_distrib (a:=u) (b:=v) (i:=1);simpa [Nat.shiftRight_eq_div_pow]using h
theorem J3(u v:Nat):(u^^^v)%2=(u%2+v%2)%2:=by
 have h:(u^^^v)%2^1=(u%2^1)^^^(v%2^1):=Nat.xor_mod_two_pow;simp only[Nat.pow_one]at h;rw[h];rcases P3 u with hu|hu<;>rcases P3 v with hv|hv<;>rw[hu,hv]<;>rfl
theorem zT(u v:Nat):ft (u^^^v)=ft u^^^ft v:=by
 unfold ft;rw[GU,J3];rcases P3 u with hu|hu<;>rcases P3 v with hv|hv<;>rw[hu,hv]<;>simp
 .ac_rfl
 .ac_rfl
 .rw[show u/2^^^3988292384^^^(v/2^^^3988292384)=u/2^^^v/2^^^(3988292384^^^3988292384) by ac_rfl,Nat.xor_self,Nat.xor_zero]
theorem qk:∀k u v,dJ k (u^^^v)=dJ k u^^^dJ k v
 |0,_,_=>rfl
 |k+1,u,v=>by show dJ k (ft (u^^^v))=_;rw[zT,qk k];rfl
theorem jZ(q:Nat):ft (2*q)=q:=by
 unfold ft;rw[dj (by omega)];omega
theorem zY(q:Nat):dJ 4 (16*q)=q:=by
 show ft (ft (ft (ft (16*q))))=q;rw[show 16*q=2*(2*(2*(2*q))) by omega,jZ,jZ,jZ,jZ]
theorem oU(x:Nat):dJ 4 x=(x/16)^^^dJ 4 (x%16):=by
 have e:x=(16*(x/16))^^^(x%16):=by
  have h:=Qx (i:=4) (b:=x%16) oM (x/16);have h2:16*(x/16)+x%16=x:=oM;have h3:2^4*(x/16)+x%16=x:=oM;rw[h3]at h
  have h4:(2^4*(x/16))&&&(x%16)=0:=by
   apply Nat.eq_of_testBit_eq;intro i;rw[Nat.testBit_and,show x%16=x%2^4 by rfl,Nat.testBit_mod_two_pow,Nat.testBit_two_pow_mul,Nat.zero_testBit];rcases Fc i 4 with h5|h5
   .rw[show decide (i>=4)=false by simp;omega];simp
   rw[show decide (i<4)=false by simp;omega];simp
  rw[show 16*(x/16)=2^4*(x/16) by omega];have h8:(2^4*(x/16))|||(x%16)=(2^4*(x/16))^^^(x%16):=by apply Nat.eq_of_testBit_eq;intro i;have h9:=Ce (λt=>Nat.testBit t i) h4;simp only[Nat.testBit_and,Nat.zero_testBit]at h9;simp only[Nat.testBit_or,Nat.testBit_xor];revert h9;cases Nat.testBit (2^4*(x/16)) i<;>cases Nat.testBit (x%16) i<;>simp
  rw[<-h8];exact h
 have h:=qk 4 (16*(x/16)) (x%16);rw[<-e,zY]at h;exact h
theorem pN:∀j k r,dJ (j+k) r=dJ k (dJ j r)
 |0,k,r=>by rw[nS];rfl
 |j+1,k,r=>by rw[show j+1+k=(j+k)+1 by omega];show dJ (j+k) (ft r)=_;rw[pN j k];rfl
def fK:List Nat:=(List.range 16).map (dJ 4)
theorem CX(i:Nat)(h:i<16):fK.getD i 0=dJ 4 i:=by
 unfold fK;rw[Dv];simp[h]
theorem nj(x:Nat):dJ 8 x=((x/16)^^^fK.getD (x%16) 0)/16^^^fK.getD (((x/16)^^^fK.getD (x%16) 0)%16) 0:=by
 rw[CX _ (by omega),CX _ (by omega),show 8=4+4 by rfl,pN,oU x];exact oU _
theorem zk(z:Nat)(h:(z:Int)<=4294967295):bits .and .u32 (z:Int) 1=((z%2:Nat):Int):=by
 have h1:=Mw z 1 oM oM;rw[Nat.and_one_is_mod]at h1;exact h1
theorem rV(x:Nat)(w:World)(n:(x:Int)<=4294967295):
  Calls prog 295 #[.int .u32 x] w λe w'=>e=.returned (.int .u32 (dJ 4 x:Int))/\w=w':=by
 go_enter func295,ntmps295
 go_wp2
 go_loop [0,4] (λr j=>∃m z:Nat,m<=4/\j=.int .i64 ((4:Int)-m)/\r=.int .u32 z/\(z:Int)<=4294967295/\Hid (dJ m z=dJ 4 x)) (λ_ j=>4-(intOf j).toNat)
 .exact⟨4,x,oM,rfl,rfl,n,rfl⟩
 obtain⟨m,z,hm,rfl,rfl,hz,Hz⟩:=hrel;by_cases l:0<m
 .obtain⟨m,rfl⟩:∃m',m=m'+1:=⟨m-1,oM⟩;have d:z<dQ:=by unfold dQ;omega
  have c:=zk z hz;by_cases a:z%2=1
  .rw[a]at c;obtain⟨u,hu⟩:=eX ((z/2)^^^3988292384);have k:bits .xor .u32 ((z:Int)/2) 3988292384=(u:Int):=by have h:=xC (z/2) 3988292384 oM oM;rw[hu,<-h];rfl
   have b:ft z=u:=by unfold ft;rw[dq a,hu]
   have f:u<dQ:=by rw[<-b];exact Bi z d
   have i:(u:Int)<=4294967295:=by unfold dQ at f;omega
   have HU:Hid (dJ m u=dJ 4 x):=by show _=_;rw[<-Hz.out,<-b];rfl
   clear b f hu d a
   go_wp2
   go_round
   .exact⟨m,u,oM,by go_num,rfl,i,HU⟩
   exact mS
  have h0:z%2=0:=oM;rw[h0]at c;have b:ft z=z/2:=by unfold ft;rw[dj a]
  have HU:Hid (dJ m (z/2)=dJ 4 x):=by show _=_;rw[<-Hz.out,<-b];rfl
  clear b d a h0
  go_wp2
  go_round
  .exact⟨m,z/2,oM,by go_num,by go_num,oM,HU⟩
  exact mS
 have g:m=0:=oM;subst g
 go_wp2
 go_ret;refine⟨?_,rfl⟩;rw[<-Hz.out];rfl
structure cq (S:Nat->Prop) (w w':World):Prop where
 os:w'.os=w.os
 tape:w'.tape=w.tape
 output:w'.output=w.output
 size:w.heap.size<=w'.heap.size
 block:∀k,k<w.heap.size->¬S k->w'.heap[k]?=w.heap[k]?
theorem cq.refl(S:Nat->Prop)(w:World):cq S w w:=⟨rfl,rfl,rfl,cO _,λ_ _ _=>rfl⟩
theorem cq.trans{a b c:World}(h:cq S a b)(d:cq S b c):cq S a c:=
 ⟨d.os.trans h.os,d.tape.trans h.tape,d.output.trans h.output,lZ h.size d.size,λk hk hs=>(d.block k (ny hk h.size) hs).trans (h.block k hk hs)⟩
theorem cq.alloc{a b:World}(h:cq S a b)(o:Obj):cq S a (b.alloc o):=
 h.trans ⟨rfl,rfl,rfl,sI,λk hk _=>rd b o k hk⟩
theorem cq.setCell{a b:World}(h:cq S a b)(p:Addr)(c:S p.block)(v:Value):cq S a (b.setCell p v):=
 h.trans ⟨rfl,rfl,rfl,by simp[World.setCell],λk _ hs=>lq b p k v (λe=>hs (e▸c))⟩
theorem cq.drew{a b:World}(h:cq S a b):cq S a b.drew:=⟨h.os,h.tape,h.output,h.size,h.block⟩
theorem cq.below{a b:World}(h:cq S a b)(c:∀k,S k->B<=k)(d:B<=a.heap.size):Below B a b:=
 ⟨h.os,h.tape,h.output,h.size,λk hk=>h.block k (ny hk d) (λhS=>by have:=c k hS;omega)⟩
theorem cq.cell{a b:World}(h:cq S a b){p:Addr}(d:¬S p.block)(hc:a.cell? p=some v):b.cell? p=some v:=by
 have c:=pr hc;have hb:=h.block p.block c d;unfold World.cell? at*;rw[hb];exact hc
def gm(d m:Int)(ws:List Nat):List Value:=[.int .u32 d,.int .i32 m,.int .u32 0]++ws.map λx:Nat=>Value.int .u32 x
def dY(w:World)(b:Nat)(d m:Int)(ws:List Nat):Prop:=w.heap[b]?=some (.cells (gm d m ws).toArray 127 (0,0))
theorem dY.lt{d m:Int}(h:dY w b d m ws):b<w.heap.size:=(Array.getElem?_eq_some_iff.1 h).1
theorem dY.frozen{d m:Int}(h:dY w b d m ws)(j:Nat):w.frozen? (yA b j)=false:=fH w b j _ _ h
theorem dY.c0{d m:Int}(h:dY w b d m ws):w.cell? (yA b 0)=some (.int .u32 d):=by
 rw[Gp w b 0 _ _ _ h];simp[gm]
theorem dY.c1{d m:Int}(h:dY w b d m ws):w.cell? (yA b 1)=some (.int .i32 m):=by
 rw[Gp w b 1 _ _ _ h];simp[gm]
theorem dY.word{d m:Int}(h:dY w b d m ws)(j:Nat)(a:j<ws.length):w.cell? (yA b (3+j))=some (.int .u32 (ws[j]:Int)):=by
 rw[Gp w b (3+j) _ _ _ h,Gb];simp[gm,a]
theorem dY.set0{d m:Int}(h:dY w b d m ws)(x:Int):dY (w.setCell (yA b 0) (.int .u32 x)) b x m ws:=by
 unfold dY;rw[gE w b 0 _ _ _ h];simp[gm]
theorem dY.set1{d m:Int}(h:dY w b d m ws)(x:Int):dY (w.setCell (yA b 1) (.int .i32 x)) b d x ws:=by
 unfold dY;rw[gE w b 1 _ _ _ h];simp[gm]
theorem dY.setW{d m:Int}(h:dY w b d m ws)(j x:Nat):dY (w.setCell (yA b (3+j)) (.int .u32 x)) b d m (ws.set j x):=by
 unfold dY;rw[gE w b (3+j) _ _ _ h,Gb];simp[gm,Ps]
theorem dY.alloc{d m:Int}(h:dY w b d m ws)(o:Obj):dY (w.alloc o) b d m ws:=(rd w o b h.lt).trans h
def rL(ws:List Nat)(i:Nat):List Nat:=fK.take i++ws.drop i
theorem iU:fK.length=16:=rfl
theorem qa(ws:List Nat)(i:Nat)(a:ws.length=16)(c:i<=16):(rL ws i).length=16:=by
 simp[rL,iU,a];omega
theorem vK(ws:List Nat)(i:Nat)(a:ws.length=16)(c:i<16):(rL ws i).set i (dJ 4 i)=rL ws (i+1):=by
 have h:=xg ws fK i (by rw[a,iU]) oM;have e:fK[i]'(iU▸c)=dJ 4 i:=by simp[fK]
 rw[e]at h;exact h
theorem wo(ws:List Nat)(a:ws.length=16):rL ws 16=fK:=by
 unfold rL;rw[pK (by rw[iU];omega),A9 (by omega),CO]
theorem D6(b:Nat)(k:Addr)(d m:Int)(ws:List Nat)(w:World)(n:w.cell? k=some (yP b))(l:k.block≠b)(o:ws.length=16)(p:dY w b d m ws):
  Calls prog 294 #[.pointer (some k)] w λe w'=>e=.returned (.tuple #[])/\dY w' b d m fK/\cq (·=b) w w':=by
 have HW:=hD o;have HT:=hD p;clear o p;go_enter func294,ntmps294
 go_wp2
 have HP:=hD n;clear n;go_loopw [2] (λc wr=>∃i:Nat,i<=16/\c=.int .u32 i/\Hid (dY wr b d m (rL ws i))/\Hid (cq (·=b) w wr)) (λc _=>16-(intOf c).toNat)
 .exact⟨0,oM,rfl,HT,cq.refl _ _⟩
 clear HT;obtain⟨i,hi,rfl,HT,HS⟩:=hrel;by_cases f:i<16
 .have j:=HS.cell l HP;obtain⟨z,cz⟩:∃z:Int,wr.cell? (yA b (3+i))=some (.int .u32 z):=⟨_,HT.word i (by rw[qa ws i HW.out (by omega)];exact f)⟩;have fz:=HT.frozen (3+i)
  go_wp2
  go_region_with (go_at_call 295;go_must (refine(rV i _ oM).mono ?_;rintro e w' ⟨rfl,rfl⟩))
  all_goals
   go_wp2
   go_roundw
   case rel=>
    refine⟨i+1,oM,by go_num,?_,?_⟩
    .have h1:=HT.setW i (dJ 4 i);rw[vK ws i HW.out f]at h1;exact h1
    exact(HS.setCell (yA b (3+i)) rfl _).drew
   exact mS
 have a:i=16:=oM;obtain⟨i1,g⟩:=eX (i);subst g;have h:Hid (dY wr b d m fK):=by have h1:=HT;rw[a,wo ws HW.out]at h1;exact h1
 clear HT a
 go_wp2
 go_end0
 exact⟨rfl,h,HS⟩
def eP(w:World)(S:Nat->Prop)(e:TypeId)(k:Nat)(v:Value)(n:Nat)(xs:List Value):Prop:=w.ownsRow 0 e k v n xs/\∀g,v.ownBlock=some g->S g
theorem cI(h:w.ownsRow B e k v n xs)(c:∀g,v.ownBlock=some g->w'.heap[g]?=w.heap[g]?):w'.ownsRow B e k v n xs:=by
 obtain⟨h1,h2|⟨g,b,a,hv,hB,hh,h3⟩⟩:=h
 .exact⟨h1,.inl h2⟩
 exact⟨h1,.inr ⟨g,b,a,hv,hB,by rw[c g (by rw[hv];rfl)];exact hh,h3⟩⟩
theorem eP.on{T:Nat->Prop}(h:eP w S e k v n xs)(c:cq T w w')(d:∀g,v.ownBlock=some g->¬T g):eP w' S e k v n xs:=by
 refine⟨cI h.1 λg hg=>?_,h.2⟩;obtain⟨h1,h2|⟨g',b,a,hv,hB,hh,h3⟩⟩:=h.1
 .rw[h2.1]at hg;cases hg
 rw[hv]at hg;cases hg;exact c.block g' (Array.getElem?_eq_some_iff.1 hh).1 (d g' (by rw[hv];rfl))
theorem eP.lt(h:eP w S e k v n xs)(c:v.ownBlock=some g):g<w.heap.size:=by
 obtain⟨h1,h2|⟨g',b,a,hv,hB,hh,h3⟩⟩:=h.1
 .rw[h2.1]at c;cases c
 rw[hv]at c;cases c;exact(Array.getElem?_eq_some_iff.1 hh).1
theorem eP.mono{T:Nat->Prop}(h:eP w S e k v n xs)(a:∀g,S g->T g):eP w T e k v n xs:=⟨h.1,λg hg=>a g (h.2 g hg)⟩
theorem eP.open(h:eP w S e k v n xs)(b:0<n):
  ∃g cap,v=.slice (yS g 0) n cap/\S g/\(∀j (hj:j<xs.length),w.cell? (yA g j)=some xs[j])/\∀j,w.frozen? (yA g j)=false:=by
 obtain⟨h1,h2|⟨g,cap,a,hv,hB,hh,h3,h4,h5,h6⟩⟩:=h.1
 .omega
 .refine⟨g,cap,hv,h.2 g (by rw[hv];rfl),λj hj=>?_,λj=>fH w g j _ _ hh⟩;rw[Gp w g j _ _ _ hh,<-kX];have:(a.toList.take (n*k))[j]?=some xs[j]:=by rw[h6];exact pI hj
  rw[NJ (by omega)]at this;exact this
theorem eP.set(h:eP w S e k (.slice (yS g 0) n cap) n xs)(j:Nat)(y:Value):
  eP (w.setCell (yA g j) y) S e k (.slice (yS g 0) n cap) n (xs.set j y):=by
 obtain⟨h1,h2|⟨g',b,a,hv,hB,hh,h3,h4,h5,h6⟩⟩:=h.1
 .cases h2.1
 cases hv;refine⟨⟨by rw[KV];exact h1,.inr ⟨g,cap,a.setIfInBounds j y,rfl,hB,?_,h3,h4,by simpa using h5,?_⟩⟩,h.2⟩
 .exact gE w g j _ _ y hh
 rw[PW,List.take_set,h6]
def em(l:List ByteArray):List Value:=l.map Value.string
theorem iT(l:List ByteArray):(em l).length=l.length:=by simp[em]
theorem cq.weak{T:Nat->Prop}(h:cq S w w')(a:∀g,S g->T g):cq T w w':=⟨h.os,h.tape,h.output,h.size,λk hk hn=>h.block k hk λhs=>hn (a k hs)⟩
end
section
open Go.ChangeShapes Go.WideShapes Go.RowKit Go.Deep
def yD(n:Int):Prop:= -9223372036854775808<=n/\n<=9223372036854775807
theorem yT:prog.cellsOf 3=1:=kR
theorem wK:prog.cellsOf 9=1:=kR
theorem GT{n:Int}(h:(Lit.int .i64 n).wf=true):yD n:=by
 simp[Lit.wf,IntKind.min,IntKind.max,IntKind.signed,IntKind.bits]at h;unfold yD;omega
section
variable {H:Type} {enc:TypeId×Value->H} {W:World} {sp:Nat->Bool} {held:Bool}
end
end
section
open Go.RowKit
theorem cq.of_grown(h:w.grownBy w' v.ownBlock)(hv:∀g,v.ownBlock=some g->S g):cq S w w':=
 ⟨h.os,h.tape,h.output,h.size,λk hk hn=>h.block k hk (λe=>hn (hv k e.symm))⟩
theorem cm{o:Obj}(h:W.heap[b]?=some o):b<W.heap.size:=(Array.getElem?_eq_some_iff.1 h).1
def z64:ByteArray:=⟨(List.replicate 64 (0:UInt8)).toArray⟩
theorem qi:z64.size=64:=dE
end
section
def Dt(b:UInt8):Bool:=(decide (97<=b.toNat)&&decide (b.toNat<=122))||(decide (48<=b.toNat)&&decide (b.toNat<=57))||decide (b.toNat=46)||decide (b.toNat=95)||decide (b.toNat=45)
theorem Ea:Dt 47=false:=dE
def Bp(l:List UInt8):Bool:=l.all Dt&&decide (1<=l.length)&&decide (l.length<=16)
def bl(s:ByteArray):List UInt8:=s.data.toList
def lb(l:List UInt8):ByteArray:=⟨l.toArray⟩
theorem Oi(l:List UInt8):bl (lb l)=l:=rfl
theorem Dk(s:ByteArray):lb (bl s)=s:=by
 apply Pf;exact BO
theorem ej(h:bl s=bl t):s=t:=by rw[<-Dk s,h,Dk]
theorem dO(s:ByteArray):(bl s).length=s.size:=by
 show s.data.toList.length=s.data.size;exact gf
theorem eQ(s t:ByteArray):bl (s++t)=bl s++bl t:=by
 show(s++t).data.toList=_;rw[ByteArray.data_append,Array.toList_append];rfl
theorem cP(s:ByteArray)(a b:Nat):bl (s.extract a b)=((bl s).drop a).take (b-a):=by
 show(s.extract a b).data.toList=_;rw[O1,Ru];rw[QZ];rfl
def yF(s:ByteArray):Bool:=Bp (bl s)
def gV:List UInt8->List (List UInt8)
 |[]=>[[]]
 |b::l=>if b=47 then[]::gV l else match gV l with
  |[]=>[[b]]
  |x::r=>(b::x)::r
theorem yx(l:List UInt8):gV l≠[]:=by
 cases l with
 |nil=>simp[gV]
 |cons b l=>
  unfold gV;split
  .simp
  .split<;>simp
theorem BJ(l:List UInt8):gV (47::l)=[]::gV l:=by simp[gV]
theorem tI:∀(p q:List UInt8),(∀b∈p,b≠47)->∀x r,gV q=x::r->gV (p++q)=(p++x)::r
 |[],q,_,x,r,h=>by simpa using h
 |b::p,q,hp,x,r,h=>by have ih:=tI p q (λc hc=>hp c (by simp[hc])) x r h;rw[Np,gV,dj (hp b (by simp)),ih];rfl
theorem qF(p:List UInt8)(a:∀b∈p,b≠47):gV p=[p]:=by
 have h:=tI p [] a [] [] rfl;simpa using h
theorem yR(p q:List UInt8)(a:∀b∈p,b≠47):gV (p++47::q)=p::gV q:=by
 have h:=tI p (47::q) a [] (gV q) (BJ q);simpa using h
def jT:List (List UInt8)->List UInt8
 |[]=>[]
 |[x]=>x
 |x::y::r=>x++47::jT (y::r)
theorem BE(x:List UInt8)(l:List (List UInt8))(h:l≠[]):jT (x::l)=x++47::jT l:=by
 cases l with
 |nil=>exact absurd rfl h
 |cons y r=>rfl
theorem B6(b:UInt8)(x:List UInt8)(r:List (List UInt8)):jT ((b::x)::r)=b::jT (x::r):=by
 cases r with
 |nil=>rfl
 |cons y r=>rfl
theorem AU:∀l:List UInt8,jT (gV l)=l
 |[]=>rfl
 |b::l=>by
  have ih:=AU l;unfold gV;by_cases h:b=47
  .rw[dq h,BE _ _ (yx l),ih,h];rfl
  rw[dj h]
  cases hc:gV l with
  |nil=>exact absurd hc (yx l)
  |cons x r=>
   rw[hc]at ih;show jT ((b::x)::r)=_;rw[B6,ih]
theorem uN:∀(l:List (List UInt8)),l≠[]->(∀x∈l,∀b∈x,b≠47)->gV (jT l)=l
 |[x],_,hp=>qF x (hp x sI)
 |x::y::r,_,hp=>by show gV (x++47::jT (y::r))=_;rw[yR x _ (hp x (by simp)),uN (y::r) (by simp) (λz hz=>hp z (by simp only[OS]at hz⊢;exact .inr hz))]
theorem tP:∀(l:List (List UInt8))(x:List UInt8),l≠[]->jT (l++[x])=jT l++47::x
 |[y],x,_=>rfl
 |y::z::r,x,_=>by have h:=tP (z::r) x sI;show y++47::jT (z::r++[x])=(y++47::jT (z::r))++47::x;rw[h];simp
theorem uW{l:List UInt8}(h:Bp l=true):∀b∈l,b≠47:=by
 intro b hb e;unfold Bp at h;rw[Dj,Dj]at h;have:=List.all_eq_true.1 h.1.1 b hb;rw[e,Ea]at this;cases this
theorem Ou{l:List UInt8}(h:Bp l=true):l≠[]:=by
 rintro rfl;simp[Bp]at h
theorem Nk{l:List UInt8}(h:Bp l=true):l.length<=16:=by
 unfold Bp at h;rw[Dj]at h;simpa using h.2
def pW(s:ByteArray):List ByteArray:=(gV (bl s)).map lb
def cZ(s:ByteArray):Option (List ByteArray):=if s.size=0 then some []else if(pW s).all yF=true/\(pW s).length<=8 then some (pW s)else none
def fp(l:List ByteArray):Prop:=∀n∈l,yF n=true
def m8:ByteArray:=⟨#[47]⟩
def jn(p n:ByteArray):ByteArray:=if p.size=0 then n else p++m8++n
def dy(l:List ByteArray):ByteArray:=l.foldl jn ⟨#[]⟩
theorem l9(l:List ByteArray)(n:ByteArray):dy (l++[n])=jn (dy l) n:=by simp[dy,A5]
theorem dR(h:cZ s=some l):fp l/\l.length<=8:=by
 unfold cZ at h;split at h
 .cases h;exact⟨(by intro n hn;cases hn),dE⟩
 split at h
 .rename_i h1;cases h;exact⟨λn hn=>List.all_eq_true.1 h1.1 n hn,h1.2⟩
 cases h
theorem j9(h:s.size=0):s=⟨#[]⟩:=by
 apply Pf;exact Array.eq_empty_of_size_eq_zero h
theorem io{n:ByteArray}(h:yF n=true):0<n.size/\n.size<=16:=by
 have h1:=Ou h;have h2:=Nk h;rw[dO]at h2;refine⟨?_,h2⟩;rw[<-dO];exact List.length_pos_iff.2 h1
theorem jx:∀(l:List ByteArray),fp l->bl (dy l)=jT (l.map bl)/\(l≠[]->0<(dy l).size):=by
 intro l
 suffices h:∀l:List ByteArray,fp l.reverse->bl (dy l.reverse)=jT (l.reverse.map bl)/\(l.reverse≠[]->0<(dy l.reverse).size) by have:=h l.reverse;rw[PT]at this;exact this
 intro l
 induction l with
 |nil=>intro _;exact⟨rfl,λh=>absurd rfl h⟩
 |cons n r ih=>
  intro hv;rw[PV]at hv⊢;obtain⟨h1,h2⟩:=ih (λx hx=>hv x (by simp at hx⊢;exact .inl hx));have hn:=io (hv n sI);rw[l9,qA];by_cases hr:r.reverse=[]
  .rw[hr];refine⟨?_,λ_=>?_⟩
   .show bl (jn ⟨#[]⟩ n)=_;rfl
   show 0<(jn ⟨#[]⟩ n).size;exact hn.1
  have h3:=h2 hr;have e:jn (dy r.reverse) n=dy r.reverse++m8++n:=by unfold jn;rw[dj (by omega)]
  rw[e];refine⟨?_,λ_=>?_⟩
  .rw[eQ,eQ,h1,Cw,tP _ _ (by simpa using hr)];show jT _++[47]++bl n=_;simp
  rw[lY,lY];omega
theorem lU{m:List ByteArray}(d:fp l)(e:fp m)(h:dy l=dy m):l=m:=by
 obtain⟨h1,h2⟩:=jx l d;obtain⟨h3,h4⟩:=jx m e;by_cases e1:l=[]
 .by_cases e2:m=[]
  .rw[e1,e2]
  have:=h4 e2;rw[<-h,e1]at this;exact absurd this (by show¬0<(⟨#[]⟩:ByteArray).size;decide)
 by_cases e2:m=[]
 .have:=h2 e1;rw[h,e2]at this;exact absurd this (by show¬0<(⟨#[]⟩:ByteArray).size;decide)
 have c:∀l:List ByteArray,fp l->∀x∈l.map bl,∀b∈x,b≠47:=by intro l d x hx;obtain⟨n,hn,rfl⟩:=List.mem_map.1 hx;exact uW (d n hn)
 have c1:=uN (l.map bl) (by simpa using e1) (c l d);have c2:=uN (m.map bl) (by simpa using e2) (c m e);rw[<-h1,h,h3,c2]at c1;have:(m.map bl).map lb=(l.map bl).map lb:=by rw[c1]
 simp only[NF]at this
 have a:∀l:List ByteArray,l.map (lb∘bl)=l:=λl=>by
  conv=>rhs;rw[<-List.map_id l]
  apply NG;intro x _;exact Dk x
 rw[a,a]at this;exact this.symm
theorem As(s:ByteArray):(pW s).map bl=gV (bl s):=by
 unfold pW;rw[NF]
 conv=>rhs;rw[<-List.map_id (gV (bl s))]
 apply NG;intro x _;rfl
theorem Cz(h:cZ s=some l):dy l=s:=by
 have hv:=(dR h).1;unfold cZ at h;split at h
 .rename_i h0;cases h;rw[j9 h0];rfl
 split at h
 .cases h;apply ej;rw[(jx _ hv).1,As,AU]
 cases h
theorem zK(s:ByteArray):(pW s).length=(gV (bl s)).length:=by simp[pW]
structure pp where
 names:List ByteArray
 dir:Bool
 data:ByteArray
abbrev cS:=List pp
def cA(T:cS)(p:List ByteArray):Option pp:=T.find? (λx=>decide (x.names=p))
structure eN (T:cS):Prop where
 val:∀x∈T,x.names≠[]/\x.names.length<=8/\fp x.names
 dis:(T.map (·.names)).Nodup
 up:∀x∈T,x.names.dropLast≠[]->∃y,cA T x.names.dropLast=some y/\y.dir=true
 len:T.length<=256
 fil:∀x∈T,x.dir=true->x.data=⟨#[]⟩
 big:∀x∈T,x.data.size<=1536
theorem dI{T:cS}{x:pp}(h:cA T p=some x):x∈T/\x.names=p:=by
 unfold cA at h;have h1:=OV h;have h2:=N9 h;simp at h2;exact⟨h1,h2⟩
theorem vW{T:cS}(h:cA T p=none):∀x∈T,x.names≠p:=by
 unfold cA at h;rw[Nw]at h;intro x hx e;exact h x hx (by simpa using e)
theorem lT{T:cS}(a:(T.map (·.names)).Nodup){x:pp}(b:x∈T):cA T x.names=some x:=by
 induction T with
 |nil=>cases b
 |cons y r ih=>
  rw[vj,N3]at a;unfold cA;rw[IE];by_cases h:y.names=x.names
  .rw[jX h];rcases List.mem_cons.1 b with rfl|h1
   .rfl
   .exact absurd (List.mem_map.2 ⟨x,h1,h.symm⟩) a.1
  rw[lW h];rcases List.mem_cons.1 b with rfl|h1
  .exact absurd rfl h
  exact ih a.2 h1
theorem oL{T:cS}(h:eN T):cA T []=none:=by
 unfold cA;rw[Nw];intro x hx e;simp at e;exact(h.val x hx).1 e
def eO(T:cS)(p:List ByteArray):Bool:=match cA T p with
 |some x=>!x.dir
 |none=>false
def eB(T:cS):List ByteArray->List ByteArray->Nat
 |_,[]=>0
 |pre,n::r=>if eO T pre then 7 else if(cA T (pre++[n])).isNone then 6 else eB T (pre++[n]) r
theorem nH{T:cS}:∀{r pre:List ByteArray},eB T pre r=0->(r≠[]->(cA T (pre++r)).isSome)
 |[],_,_=>λh=>absurd rfl h
 |n::r,pre,h=>by
  intro _;unfold eB at h;split at h
  .cases h
  split at h
  .cases h
  rename_i h1 h2;by_cases hr:r=[]
  .subst hr
   cases hl:cA T (pre++[n])with
   |none=>rw[hl]at h2;exact absurd rfl h2
   |some x=>rfl
  have:=nH h hr;simpa using this
theorem fT(T:cS):∀(r pre:List ByteArray),eB T pre r=0\/eB T pre r=6\/eB T pre r=7
 |[],_=>.inl rfl
 |n::r,pre=>by
  unfold eB;split
  .exact .inr (.inr rfl)
  .split
   .exact .inr (.inl rfl)
   exact fT T r _
def dZ(T:cS)(p:List ByteArray):List ByteArray:=(T.filter (λx=>decide (x.names.dropLast=p))).map (λx=>x.names.getLast?.getD ⟨#[]⟩)
theorem ie(h:l≠[]):l.dropLast++[l.getLast?.getD ⟨#[]⟩]=l:=by
 rw[QK h];exact QW h
theorem iS{T:cS}(h:eN T)(p:List ByteArray)(n:ByteArray):n∈dZ T p↔(cA T (p++[n])).isSome:=by
 unfold dZ;rw[N1];constructor
 .rintro⟨x,hx,rfl⟩;rw[L5]at hx;have h1:=ie (h.val x hx.1).1;have h2:x.names.dropLast=p:=by simpa using hx.2
  rw[h2]at h1;rw[h1,lT h.dis hx.1];rfl
 intro hs;obtain⟨x,hx⟩:=Option.isSome_iff_exists.1 hs;obtain⟨h1,h2⟩:=dI hx;refine⟨x,List.mem_filter.2 ⟨h1,by rw[h2];simp⟩,by rw[h2];simp⟩
theorem lm{T:cS}(h:eN T)(p:List ByteArray):(dZ T p).Nodup:=by
 unfold dZ;have hd:=h.dis;have hv:∀x∈T,x.names≠[]:=λx hx=>(h.val x hx).1
 clear h
 induction T with
 |nil=>simp
 |cons y r ih=>
  rw[vj,N3]at hd;have ih:=ih hd.2 (λx hx=>hv x (by simp[hx]));rw[DL];split
  .rename_i hy;rw[vj,N3];refine⟨λhm=>?_,ih⟩;obtain⟨x,hx,he⟩:=List.mem_map.1 hm;rw[L5]at hx;apply hd.1;have e1:=ie (hv x (by simp[hx.1]));have e2:=ie (hv y sI);have h1:x.names.dropLast=p:=by simpa using hx.2
   have h2:y.names.dropLast=p:=by simpa using hy
   rw[h1,he]at e1;rw[h2]at e2;exact List.mem_map.2 ⟨x,hx.1,e1.symm.trans e2⟩
  exact ih
def rm(a b:ByteArray):Bool:=decide (bl a<=bl b)
def dh(T:cS)(p:List ByteArray):List ByteArray:=(dZ T p).mergeSort rm
theorem wn:∀a b c:ByteArray,rm a b=true->rm b c=true->rm a c=true:=by
 intro a b c h1 h2;simp[rm]at*;exact List.le_trans h1 h2
theorem DY:∀a b:ByteArray,(rm a b||rm b a)=true:=by
 intro a b;simp[rm];exact List.le_total _ _
theorem Gm{a b:ByteArray}(c:rm a b=true)(d:rm b a=true):a=b:=by
 simp[rm]at*;exact ej (QQ c d)
theorem fh(T:cS)(p:List ByteArray):(dh T p).Perm (dZ T p):=List.mergeSort_perm _ _
theorem DM{m:List ByteArray}(c:l.Perm m)(d:l.Pairwise (λa b=>rm a b=true))(e:m.Pairwise (λa b=>rm a b=true)):l=m:=
 c.eq_of_pairwise (λ_ _ _ _ h1 h2=>Gm h1 h2) d e
theorem ms(T:cS)(p:List ByteArray):(dh T p).Pairwise (λa b=>rm a b=true):=List.pairwise_mergeSort wn DY _
theorem AR{T:cS}(c:l.Perm (dZ T p))(d:l.Pairwise (λa b=>rm a b=true)):l=dh T p:=DM (c.trans (fh T p).symm) d (ms T p)
theorem nz(T:cS)(p:List ByteArray):(dZ T p).length<=T.length:=by
 unfold dZ;rw[iF];exact KI _ _
def dD(T:cS)(l:List ByteArray):Nat:=if eB T [] l.dropLast≠0 then eB T [] l.dropLast else if eO T l.dropLast then 7 else 0
def fZ(T:cS)(p:List ByteArray):Bool:=decide (16<=(dZ T p).length)||decide (256<=T.length)
def jl(T:cS)(l:List ByteArray)(d:ByteArray):cS:=T.map (λx=>if x.names=l then{x with data:=d}else x)
def iG(T:cS)(l:List ByteArray)(d:ByteArray):Nat:=if 1536<d.size then 11 else if dD T l≠0 then dD T l else match cA T l with
 |some x=>if x.dir then 7 else 0
 |none=>if fZ T l.dropLast then 10 else 0
def ia(T:cS)(l:List ByteArray)(d:ByteArray):cS:=if iG T l d≠0 then T else match cA T l with
 |some _=>jl T l d
 |none=>T++[⟨l,false,d⟩]
def eY(T:cS)(l:List ByteArray):Nat:=if dD T l≠0 then dD T l else if(cA T l).isSome then 8 else if fZ T l.dropLast then 10 else 0
def ff(T:cS)(l:List ByteArray):cS:=if eY T l≠0 then T else T++[⟨l,true,⟨#[]⟩⟩]
def dV(T:cS)(l:List ByteArray):Nat:=if dD T l≠0 then dD T l else if(cA T l).isNone then 6 else if dZ T l≠[]then 9 else 0
def dS(T:cS)(l:List ByteArray):cS:=T.filter (λx=>decide (x.names≠l))
def d9(T:cS)(l:List ByteArray):cS:=if dV T l≠0 then T else dS T l
end
section
open Go.RowKit
def fX:List Nat:=[1779033703,3144134277,1013904242,2773480762,1359893119,2600822924,528734635,1541459225]
def lw:List Nat:=[1116352408,1899447441,3049323471,3921009573,961987163,1508970993,2453635748,2870763221,3624381080,310598401,607225278,1426881987,1925078388,2162078206,2614888103,3248222580,3835390401,4022224774,264347078,604807628,770255983,1249150122,1555081692,1996064986,2554220882,2821834349,2952996808,3210313671,3336571891,3584528711,113926993,338241895,666307205,773529912,1294757372,1396182291,1695183700,1986661051,2177026350,2456956037,2730485921,2820302411,3259730800,3345764771,3516065817,3600352804,4094571909,275423344,430227734,506948616,659060556,883997877,958139571,1322822218,1537002063,1747873779,1955562222,2024104815,2227730452,2361852424,2428436474,2756734187,3204031479,3329325298]
theorem wW:∀d∈fX,d<dQ:=by unfold dQ;decide
theorem wk:∀d∈lw,d<dQ:=by unfold dQ;decide
end
end Go.Proofs.YtapijhhmjjplmaaGreatDoor

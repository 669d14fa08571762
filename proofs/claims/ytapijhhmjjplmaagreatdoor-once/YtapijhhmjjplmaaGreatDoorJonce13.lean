import Derived.Test.YtapijhhmjjplmaaGreatDoorJonce8
import Derived.Test.YtapijhhmjjplmaaGreatDoorJonce9
namespace Go.Proofs.YtapijhhmjjplmaaGreatDoor
set_option linter.all false
set_option maxRecDepth 100000
set_option maxHeartbeats 4000000
open Go.Proofs.Tryz
variable {ws:List Nat}{pre:List Value}{b:Nat}{S:Nat→Prop}{w w':World}
section
open Go.RowKit
theorem Gw(b:Nat)(p:Addr)(ws:List Nat)(w:World)(r:w.cell? p=some (yP b))(o:p.block≠b)(s:ws.length=16)(q:dY w b 0 0 ws):
  Calls prog 313 #[yP b,.func (.func 294) #[] #[.pointer (some p)]] w λe w'=>e=.returned (.tuple #[])/\dY w' b 1 0 fK/\cq (·=b) w w':=by
 have d:=q.set1 1;have c:cq (·=b) w (w.setCell (yA b 1) (.int .i32 1)):=cq.setCell (S:=(·=b)) (cq.refl _ w) (yA b 1) rfl _;have h:=c.cell o r;have j:=hD d;have m:=hD c;have k:=hD h;have c1:=q.c1;have f1:=q.frozen 1;have hl:=Nn (P:=prog) func322 kR kR kR .u32 kR (w:=w.setCell (yA b 1) (.int .i32 1)) (a:=(yA b 0)) (x:=0) d.c0;have n:=mZ;clear d c h q r
 go_enter_defers func313,ntmps313
 go_wp2_with (first|(go_at_call 57;refine(kh (yA b 1) _ c1 f1).mono ?_;rintro e w' ⟨rfl,rfl⟩)|(go_at_call 294;refine(D6 b p 0 1 ws _ k o s j).mono ?_;rintro e w2 ⟨rfl,h2,s2⟩)|(go_at_call 312;go_in))
 have l:=hD (m.trans s2);refine Jk (f:=323) (args:=#[yP b,.bool true]) sI (by simp[go_sem]) ?_;refine(nK (yA b 0) (.int .u32 0) .returning _ h2.c0 (h2.frozen 0)).mono ?_;rintro e u' w3 ⟨rfl,rfl,g⟩;have h3:dY w3 b 1 1 fK:=g▸dY.set0 (w:=w2.drew) h2 1;have s3:cq (·=b) w w3:=by rw[g];exact cq.setCell (S:=(·=b)) l.drew (yA b 0) rfl _
 refine Jk (f:=58) (args:=#[.pointer (yS b 1)]) (by simp[settle]) (by simp[go_sem]) ?_;refine(fj (yA b 1) _ _ h3.c1 (h3.frozen 1)).mono ?_;rintro e u' w4 ⟨rfl,rfl,i⟩;have h4:dY w4 b 1 0 fK:=i▸h3.set1 0;have s4:cq (·=b) w w4:=by rw[i];exact cq.setCell (S:=(·=b)) s3 (yA b 1) rfl _
 simp[Leaves,settle,results,Tryz.results313];exact⟨h4,s4⟩
theorem Hj(b:Nat)(d:Addr)(ws:List Nat)(w:World)(h:w.cell? d=some (yP b))(f:d.block≠b)(i:ws.length=16)(g:dY w b 0 0 ws):
  Calls prog 293 #[yP b,.func (.func 294) #[] #[.pointer (some d)]] w λe w'=>e=.returned (.tuple #[])/\dY w' b 1 0 fK/\cq (·=b) w w':=by
 have hl:=Nn (P:=prog) func322 kR kR kR .u32 kR (w:=w) (a:=(yA b 0)) (x:=0) g.c0;have c:=mZ;have HP:=hD h;have HT:=hD g;clear h g;go_enter func293,ntmps293
 go_wp2_with (first|(go_at_call 313;refine(Gw b d ws _ HP f i HT).mono ?_;rintro e w' ⟨rfl,h2,s2⟩)|(go_at_call 312;go_in))
 go_end0
 exact⟨rfl,h2,s2⟩
theorem Ki(b:Nat)(m:Int)(f:Value)(ws:List Nat)(w:World)(d:dY w b 1 m ws):
  Calls prog 293 #[yP b,f] w λe w'=>e=.returned (.tuple #[])/\w=w':=by
 have hl:=Nn (P:=prog) func322 kR kR kR .u32 kR (w:=w) (a:=(yA b 0)) (x:=1) d.c0;have c:=mZ;clear d;go_enter func293,ntmps293
 go_wp2
 go_end0
 exact⟨rfl,rfl⟩
def kV:List Nat:=List.replicate 16 0
def vh(w:World)(b:Nat):Prop:=dY w b 0 0 kV\/dY w b 1 0 fK
theorem vh.lt(h:vh w b):b<w.heap.size:=h.elim dY.lt dY.lt
theorem AP(b x:Nat)(w:World)(f:vh w b)(g:x<16):
  Calls prog 279 #[yP b,.int .u32 x] w λe w'=>e=.returned (.int .u32 (fK.getD x 0:Int))/\vh w' b/\cq (·=b) w w':=by
 have d:=Mf;have c:=f.lt;obtain⟨w1,a⟩:=eX (w.alloc (.cells #[yP b] 174));have p1:w1.cell? (yA w.heap.size 0)=some (yP b):=by rw[a];simp
 have s1:cq (·=b) w w1:=by rw[a];exact(cq.refl _ _).alloc _
 have HX:Hid (∀w':World,dY w' b 1 0 fK->w'.cell? (yA b (3+x))=some (.int .u32 (fK.getD x 0:Int))):=λw' h=>by rw[h.word x (iU▸g),kp]
 obtain⟨y,hy⟩:=eX (fK.getD x 0);rw[<-hy]at HX⊢;clear hy;rcases f with f|f
 .have HT:Hid (dY w1 b 0 0 kV):=a▸f.alloc _;have HP:=hD p1;have HS:=hD s1;have HD:Hid (Calls prog 293 #[yP b,.func (.func 294) #[] #[yP w.heap.size]] w1 λe w'=>e=.returned (.tuple #[])/\w'.cell? (yA w.heap.size 0)=some (yP b)/\w'.cell? (yA b (3+x))=some (.int .u32 y)/\Hid (dY w' b 1 0 fK)/\Hid (cq (·=b) w w')):=by refine(Hj b (yA w.heap.size 0) kV w1 HP (by simp;omega) rfl HT).mono ?_;rintro e w2 ⟨rfl,h2,s2⟩;exact⟨rfl,s2.cell (by simp;omega) HP,HX _ h2,h2,HS.trans s2⟩
  rw[a]at HD;clear f p1 s1 HT HP HS a HX w1;go_enter func279,ntmps279
  go_wp2_with (go_at_call 293;refine HD.mono ?_;rintro e w2 ⟨rfl,p2,c2,H2,S2⟩)
  go_ret;exact⟨rfl,.inr H2,S2.out⟩
 have HT:Hid (dY w1 b 1 0 fK):=a▸f.alloc _;have HS:=hD s1;have HD:Hid (∀fv,Calls prog 293 #[yP b,fv] w1 λe w'=>e=.returned (.tuple #[])/\w'.cell? (yA w.heap.size 0)=some (yP b)/\w'.cell? (yA b (3+x))=some (.int .u32 y)/\Hid (dY w' b 1 0 fK)/\Hid (cq (·=b) w w')):=λfv=>by refine(Ki b 0 fv fK w1 HT).mono ?_;rintro e w2 ⟨rfl,rfl⟩;exact⟨rfl,p1,HX _ HT,HT,HS⟩
 rw[a]at HD;clear f p1 s1 HT HS a HX w1;go_enter func279,ntmps279
 go_wp2_with (go_at_call 293;refine(HD _).mono ?_;rintro e w2 ⟨rfl,p2,c2,H2,S2⟩)
 go_ret;exact⟨rfl,.inr H2,S2.out⟩
theorem ma(z:Nat)(h:(z:Int)<=4294967295):bits .and .u32 (z:Int) 15=((z%16:Nat):Int):=by
 have h1:=Mw z 15 oM oM;have h2:z&&&15=z%16:=Nat.and_two_pow_sub_one_eq_mod z 4;rw[h2]at h1;exact h1
theorem tu(i:Nat):fK.getD i 0<dQ:=jE (by unfold dQ;decide+kernel) dE i
theorem Lt(b:Nat)(s:ByteArray)(w:World)(T:vh w b)(U:s.size<=140737488351232):
  Calls prog 238 #[yP b,.string s] w λe w'=>e=.returned (.int .u32 (qX s.data.toList:Int))/\cq (·=b) w w':=by
 have Q:(s.size:Int)<=140737488351232:=oM;have HT:=hD T;clear T;go_enter func238,ntmps238
 go_wp2
 go_loopw [5,9] (λr i wr=>∃k q:Nat,k<=s.size/\i=.int .i64 k/\r=.int .u32 q/\(q:Int)<=4294967295/\Hid (q=sx (s.data.toList.take k) 4294967295)/\Hid (vh wr b)/\Hid (cq (·=b) w wr)) (λ_ i _=>s.size-(intOf i).toNat)
 .exact⟨0,4294967295,fP _,rfl,rfl,oM,rfl,HT,cq.refl _ _⟩
 clear HT;obtain⟨k,q,hk,rfl,rfl,hq,Hq,HT,HS⟩:=hrel;by_cases J:k<s.size
 .obtain⟨c,hc⟩:=eX (s[k]);have N:=c.toNat_lt;have x:q<dQ:=by unfold dQ;omega
  obtain⟨y,hy⟩:=eX (q^^^c.toNat);have A:y<dQ:=hy▸fJ x (zC c);have C:bits .xor .u32 (q:Int) ((c.toNat:Int)%4294967296)=(y:Int):=by rw[hy,Int.emod_eq_of_lt (by omega) (by omega)];exact xC q c.toNat oM oM
  rw[hc]at C;have K:(y:Int)<=4294967295:=by unfold dQ at A;omega
  obtain⟨r1,l⟩:∃r,r=y%16:=⟨_,rfl⟩;have n:=ma y K;rw[<-l]at n;have D:r1<16:=oM;obtain⟨t1,a⟩:∃t,t=fK.getD r1 0:=⟨_,rfl⟩;have f:t1<dQ:=a▸tu _;obtain⟨z,hz⟩:=eX ((y/16)^^^t1);have u:z<dQ:=hz▸fJ (by unfold dQ at*;omega) f;have O:bits .xor .u32 ((y:Int)/16) (t1:Int)=(z:Int):=by have h:=xC (y/16) t1 oM (by unfold dQ at f;omega);rw[hz,<-h];rfl
  have I:(z:Int)<=4294967295:=by unfold dQ at u;omega
  obtain⟨r2,m⟩:∃r,r=z%16:=⟨_,rfl⟩;have j:=ma z I;rw[<-m]at j;have F:r2<16:=oM;obtain⟨t2,d⟩:∃t,t=fK.getD r2 0:=⟨_,rfl⟩;have g:t2<dQ:=d▸tu _;obtain⟨v,hv⟩:=eX ((z/16)^^^t2);have o:v<dQ:=hv▸fJ (by unfold dQ at*;omega) g;have P:bits .xor .u32 ((z:Int)/16) (t2:Int)=(v:Int):=by have h:=xC (z/16) t2 oM (by unfold dQ at g;omega);rw[hv,<-h];rfl
  have E:(v:Int)<=4294967295:=by unfold dQ at o;omega
  have HQ:Hid (v=sx (s.data.toList.take (k+1)) 4294967295):=by show _=_;rw[vM s k J,uf,<-Hq.out,<-hc,<-hy,nj,<-l,<-a,<-hz,<-m,<-d,<-hv]
  have G:=hD a;have L:=hD d;clear hc hy A x l a hz u m d hv o f g N Hq
  go_wp2_with fail
  refine(AP b r1 _ HT D).mono ?_;rintro e w2 ⟨rfl,h2,s2⟩;rw[<-G.out];have B:=hD h2;have p:=hD (HS.trans s2);clear h2 s2 HT HS
  go_wp2_with fail
  refine(AP b r2 _ B F).mono ?_;rintro e w3 ⟨rfl,h3,s3⟩;rw[<-L.out];have H:=hD h3;have M:=hD (p.trans s3);clear h3 s3 B p
  go_wp2
  go_roundw
  .exact⟨k+1,v,oM,by go_num,rfl,E,HQ,H,M⟩
  exact mS
 have S:=ya q oM
 go_wp2
 go_ret;have:s.data.toList.take k=s.data.toList:=pK (by simp;omega);have h:=Hq;rw[this]at h;refine⟨?_,HS⟩;unfold qX;rw[<-h];have e:((4294967295-q:Nat):Int)=4294967295-(q:Int):=oM;rw[e];rfl
theorem Ji(s:ByteArray)(w:World)(a:s.size<=140737488351232):
  Calls prog 185 #[.string s] w λe w'=>e=.returned (.int .u32 (qX s.data.toList:Int))/\Below w.heap.size w w':=by
 have HT:Hid (vh (w.alloc (.cells (gm 0 0 kV).toArray 127)) w.heap.size):=.inl (dM w _);obtain⟨c,hc⟩:=eX (qX s.data.toList);have HD:Hid (Calls prog 238 #[yP w.heap.size,.string s] (w.alloc (.cells (gm 0 0 kV).toArray 127)) λe w'=>e=.returned (.int .u32 c)/\Hid (Below w.heap.size w w')):=by refine(Lt w.heap.size s _ HT a).mono ?_;rintro e w2 ⟨rfl,s2⟩;refine⟨by rw[hc],?_⟩;exact((dw _ _).alloc (cO _) _).trans (s2.below (B:=w.heap.size) (by rintro k rfl;omega) sI)
 rw[<-hc];clear hc HT;go_enter func185,ntmps185
 go_wp2_with fail
 refine HD.mono ?_;rintro e w2 ⟨rfl,HB⟩
 go_wp2
 go_ret;exact⟨rfl,HB⟩
def fa(pre:List Value)(w:World)(b:Nat)(d m:Int)(ws:List Nat):Prop:=pre.length=12/\w.heap[b]?=some (.cells (pre++gm d m ws).toArray 129 (0,0))
theorem BP(pre l:List Value)(h:pre.length=12)(j:Nat):(pre++l).toArray[12+j]?=l[j]?:=by
 rw[Ew,F8 (by omega),h,Qn]
theorem yC(pre l:List Value)(h:pre.length=12)(j:Nat)(v:Value):(pre++l).toArray.setIfInBounds (12+j) v=(pre++l.set j v).toArray:=by
 rw[Ow,Ka _ _ (by omega),h,Qn]
theorem fa.lt{d m:Int}(h:fa pre w b d m ws):b<w.heap.size:=(Array.getElem?_eq_some_iff.1 h.2).1
theorem fa.frozen{d m:Int}(h:fa pre w b d m ws)(j:Nat):w.frozen? (yA b j)=false:=fH w b j _ _ h.2
theorem fa.c0{d m:Int}(h:fa pre w b d m ws):w.cell? (yA b 12)=some (.int .u32 d):=by
 rw[Gp w b 12 _ _ _ h.2];exact BP pre _ h.1 0
theorem fa.c1{d m:Int}(h:fa pre w b d m ws):w.cell? (yA b 13)=some (.int .i32 m):=by
 rw[Gp w b 13 _ _ _ h.2];exact BP pre _ h.1 1
theorem fa.word{d m:Int}(h:fa pre w b d m ws)(j:Nat)(a:j<ws.length):w.cell? (yA b (15+j))=some (.int .u32 (ws[j]:Int)):=by
 rw[Gp w b (15+j) _ _ _ h.2];have e:15+j=12+(j+3):=oM;rw[e,BP pre _ h.1 (j+3)];simp[gm,a]
theorem fa.set0{d m:Int}(h:fa pre w b d m ws)(x:Int):fa pre (w.setCell (yA b 12) (.int .u32 x)) b x m ws:=by
 refine⟨h.1,?_⟩;rw[gE w b 12 _ _ _ h.2];have:=yC pre (gm d m ws) h.1 0 (.int .u32 x);rw[this];rfl
theorem fa.set1{d m:Int}(h:fa pre w b d m ws)(x:Int):fa pre (w.setCell (yA b 13) (.int .i32 x)) b d x ws:=by
 refine⟨h.1,?_⟩;rw[gE w b 13 _ _ _ h.2];have:=yC pre (gm d m ws) h.1 1 (.int .i32 x);rw[this];rfl
theorem fa.setW{d m:Int}(h:fa pre w b d m ws)(j x:Nat):fa pre (w.setCell (yA b (15+j)) (.int .u32 x)) b d m (ws.set j x):=by
 refine⟨h.1,?_⟩;have e:15+j=12+(j+3):=oM;rw[gE w b (15+j) _ _ _ h.2,e,yC pre _ h.1 (j+3)];simp[gm,Ps]
theorem fa.on{d m:Int}(h:fa pre w b d m ws)(a:cq S w w')(c:¬S b):fa pre w' b d m ws:=⟨h.1,(a.block b h.lt c).trans h.2⟩
theorem fa.alloc{d m:Int}(h:fa pre w b d m ws)(o:Obj):fa pre (w.alloc o) b d m ws:=⟨h.1,(rd w o b h.lt).trans h.2⟩
theorem CJ(pre:List Value)(b:Nat)(k:Addr)(d m:Int)(ws:List Nat)(w:World)(n:w.cell? k=some (.pointer (yS b 12)))(l:k.block≠b)(o:ws.length=16)(p:fa pre w b d m ws):
  Calls prog 294 #[.pointer (some k)] w λe w'=>e=.returned (.tuple #[])/\fa pre w' b d m fK/\cq (·=b) w w':=by
 have HW:=hD o;have HT:=hD p;clear o p;go_enter func294,ntmps294
 go_wp2
 have HP:=hD n;clear n;go_loopw [2] (λc wr=>∃i:Nat,i<=16/\c=.int .u32 i/\Hid (fa pre wr b d m (rL ws i))/\Hid (cq (·=b) w wr)) (λc _=>16-(intOf c).toNat)
 .exact⟨0,oM,rfl,HT,cq.refl _ _⟩
 clear HT;obtain⟨i,hi,rfl,HT,HS⟩:=hrel;by_cases f:i<16
 .have j:=HS.cell l HP;obtain⟨z,cz⟩:∃z:Int,wr.cell? (yA b (15+i))=some (.int .u32 z):=⟨_,HT.word i (by rw[qa ws i HW.out (by omega)];exact f)⟩;have fz:=HT.frozen (15+i)
  go_wp2
  go_region_with (go_at_call 295;go_must (refine(rV i _ oM).mono ?_;rintro e w' ⟨rfl,rfl⟩))
  all_goals
   go_wp2
   go_roundw
   case rel=>
    refine⟨i+1,oM,by go_num,?_,?_⟩
    .have h1:=HT.setW i (dJ 4 i);rw[vK ws i HW.out f]at h1;exact h1
    exact(HS.setCell (yA b (15+i)) rfl _).drew
   exact mS
 have a:i=16:=oM;obtain⟨i1,g⟩:=eX (i);subst g;have h:Hid (fa pre wr b d m fK):=by have h1:=HT;rw[a,wo ws HW.out]at h1;exact h1
 clear HT a
 go_wp2
 go_end0
 exact⟨rfl,h,HS⟩
theorem D5(pre:List Value)(b:Nat)(p:Addr)(ws:List Nat)(w:World)(r:w.cell? p=some (.pointer (yS b 12)))(o:p.block≠b)(s:ws.length=16)(q:fa pre w b 0 0 ws):
  Calls prog 313 #[.pointer (yS b 12),.func (.func 294) #[] #[.pointer (some p)]] w λe w'=>e=.returned (.tuple #[])/\fa pre w' b 1 0 fK/\cq (·=b) w w':=by
 have d:=q.set1 1;have c:cq (·=b) w (w.setCell (yA b 13) (.int .i32 1)):=cq.setCell (S:=(·=b)) (cq.refl _ w) (yA b 13) rfl _;have h:=c.cell o r;have k:=hD d;have l:=hD c;have m:=hD h;have c1:=q.c1;have f1:=q.frozen 13;have hl:=Nn (P:=prog) func322 kR kR kR .u32 kR (w:=w.setCell (yA b 13) (.int .i32 1)) (a:=(yA b 12)) (x:=0) d.c0;have n:=mZ;clear d c h q r
 go_enter_defers func313,ntmps313
 go_wp2_with (first|(go_at_call 57;refine(kh (yA b 13) _ c1 f1).mono ?_;rintro e w' ⟨rfl,rfl⟩)|(go_at_call 294;refine(CJ pre b p 0 1 ws _ m o s k).mono ?_;rintro e w2 ⟨rfl,h2,s2⟩)|(go_at_call 312;go_in))
 have j:=hD (l.trans s2);refine Jk (f:=323) (args:=#[.pointer (yS b 12),.bool true]) sI (by simp[go_sem]) ?_;refine(nK (yA b 12) (.int .u32 0) .returning _ h2.c0 (h2.frozen 12)).mono ?_;rintro e u' w3 ⟨rfl,rfl,i⟩;have h3:fa pre w3 b 1 1 fK:=i▸fa.set0 (w:=w2.drew) h2 1;have s3:cq (·=b) w w3:=by rw[i];exact cq.setCell (S:=(·=b)) j.drew (yA b 12) rfl _
 refine Jk (f:=58) (args:=#[.pointer (yS b 13)]) (by simp[settle]) (by simp[go_sem]) ?_;refine(fj (yA b 13) _ _ h3.c1 (h3.frozen 13)).mono ?_;rintro e u' w4 ⟨rfl,rfl,g⟩;have h4:fa pre w4 b 1 0 fK:=g▸h3.set1 0;have s4:cq (·=b) w w4:=by rw[g];exact cq.setCell (S:=(·=b)) s3 (yA b 13) rfl _
 simp[Leaves,settle,results,Tryz.results313];exact⟨h4,s4⟩
theorem DK(pre:List Value)(b:Nat)(d:Addr)(ws:List Nat)(w:World)(h:w.cell? d=some (.pointer (yS b 12)))(f:d.block≠b)(i:ws.length=16)(g:fa pre w b 0 0 ws):
  Calls prog 293 #[.pointer (yS b 12),.func (.func 294) #[] #[.pointer (some d)]] w λe w'=>e=.returned (.tuple #[])/\fa pre w' b 1 0 fK/\cq (·=b) w w':=by
 have hl:=Nn (P:=prog) func322 kR kR kR .u32 kR (w:=w) (a:=(yA b 12)) (x:=0) g.c0;have c:=mZ;have HP:=hD h;have HT:=hD g;clear h g;go_enter func293,ntmps293
 go_wp2_with (first|(go_at_call 313;refine(D5 pre b d ws _ HP f i HT).mono ?_;rintro e w' ⟨rfl,h2,s2⟩)|(go_at_call 312;go_in))
 go_end0
 exact⟨rfl,h2,s2⟩
theorem F6(pre:List Value)(b:Nat)(m:Int)(f:Value)(ws:List Nat)(w:World)(d:fa pre w b 1 m ws):
  Calls prog 293 #[.pointer (yS b 12),f] w λe w'=>e=.returned (.tuple #[])/\w=w':=by
 have hl:=Nn (P:=prog) func322 kR kR kR .u32 kR (w:=w) (a:=(yA b 12)) (x:=1) d.c0;have c:=mZ;clear d;go_enter func293,ntmps293
 go_wp2
 go_end0
 exact⟨rfl,rfl⟩
def dt(pre:List Value)(w:World)(b:Nat):Prop:=fa pre w b 0 0 kV\/fa pre w b 1 0 fK
theorem dt.lt(h:dt pre w b):b<w.heap.size:=h.elim fa.lt fa.lt
theorem dt.on(h:dt pre w b)(a:cq S w w')(c:¬S b):dt pre w' b:=h.elim (λh=>.inl (h.on a c)) (λh=>.inr (h.on a c))
theorem wT(pre:List Value)(b x:Nat)(w:World)(f:dt pre w b)(g:x<16):
  Calls prog 279 #[.pointer (yS b 12),.int .u32 x] w λe w'=>e=.returned (.int .u32 (fK.getD x 0:Int))/\dt pre w' b/\cq (·=b) w w':=by
 have d:=Mf;have c:=f.lt;obtain⟨w1,a⟩:=eX (w.alloc (.cells #[.pointer (yS b 12)] 174));have p1:w1.cell? (yA w.heap.size 0)=some (.pointer (yS b 12)):=by rw[a];simp
 have s1:cq (·=b) w w1:=by rw[a];exact(cq.refl _ _).alloc _
 have HX:Hid (∀w':World,fa pre w' b 1 0 fK->w'.cell? (yA b (15+x))=some (.int .u32 (fK.getD x 0:Int))):=λw' h=>by rw[h.word x (iU▸g),kp]
 obtain⟨y,hy⟩:=eX (fK.getD x 0);rw[<-hy]at HX⊢;clear hy;rcases f with f|f
 .have HT:Hid (fa pre w1 b 0 0 kV):=a▸f.alloc _;have HP:=hD p1;have HS:=hD s1;have HD:Hid (Calls prog 293 #[.pointer (yS b 12),.func (.func 294) #[] #[yP w.heap.size]] w1 λe w'=>e=.returned (.tuple #[])/\w'.cell? (yA w.heap.size 0)=some (.pointer (yS b 12))/\w'.cell? (yA b (15+x))=some (.int .u32 y)/\Hid (fa pre w' b 1 0 fK)/\Hid (cq (·=b) w w')):=by refine(DK pre b (yA w.heap.size 0) kV w1 HP (by simp;omega) rfl HT).mono ?_;rintro e w2 ⟨rfl,h2,s2⟩;exact⟨rfl,s2.cell (by simp;omega) HP,HX _ h2,h2,HS.trans s2⟩
  rw[a]at HD;clear f p1 s1 HT HP HS a HX w1;go_enter func279,ntmps279
  go_wp2_with (go_at_call 293;refine HD.mono ?_;rintro e w2 ⟨rfl,p2,c2,H2,S2⟩)
  go_ret;exact⟨rfl,.inr H2,S2.out⟩
 have HT:Hid (fa pre w1 b 1 0 fK):=a▸f.alloc _;have HS:=hD s1;have HD:Hid (∀fv,Calls prog 293 #[.pointer (yS b 12),fv] w1 λe w'=>e=.returned (.tuple #[])/\w'.cell? (yA w.heap.size 0)=some (.pointer (yS b 12))/\w'.cell? (yA b (15+x))=some (.int .u32 y)/\Hid (fa pre w' b 1 0 fK)/\Hid (cq (·=b) w w')):=λfv=>by refine(F6 pre b 0 fv fK w1 HT).mono ?_;rintro e w2 ⟨rfl,rfl⟩;exact⟨rfl,p1,HX _ HT,HT,HS⟩
 rw[a]at HD;clear f p1 s1 HT HS a HX w1;go_enter func279,ntmps279
 go_wp2_with (go_at_call 293;refine(HD _).mono ?_;rintro e w2 ⟨rfl,p2,c2,H2,S2⟩)
 go_ret;exact⟨rfl,.inr H2,S2.out⟩
theorem Jf(pre:List Value)(b:Nat)(s:ByteArray)(w:World)(T:dt pre w b)(U:s.size<=140737488351232):
  Calls prog 238 #[.pointer (yS b 12),.string s] w λe w'=>e=.returned (.int .u32 (qX s.data.toList:Int))/\dt pre w' b/\cq (·=b) w w':=by
 have S:(s.size:Int)<=140737488351232:=oM;have HT:=hD T;clear T;go_enter func238,ntmps238
 go_wp2
 go_loopw [5,9] (λr i wr=>∃k q:Nat,k<=s.size/\i=.int .i64 k/\r=.int .u32 q/\(q:Int)<=4294967295/\Hid (q=sx (s.data.toList.take k) 4294967295)/\Hid (dt pre wr b)/\Hid (cq (·=b) w wr)) (λ_ i _=>s.size-(intOf i).toNat)
 .exact⟨0,4294967295,fP _,rfl,rfl,oM,rfl,HT,cq.refl _ _⟩
 clear HT;obtain⟨k,q,hk,rfl,rfl,hq,Hq,HT,HS⟩:=hrel;by_cases G:k<s.size
 .obtain⟨c,hc⟩:=eX (s[k]);have M:=c.toNat_lt;have p:q<dQ:=by unfold dQ;omega
  obtain⟨y,hy⟩:=eX (q^^^c.toNat);have C:y<dQ:=hy▸fJ p (zC c);have A:bits .xor .u32 (q:Int) ((c.toNat:Int)%4294967296)=(y:Int):=by rw[hy,Int.emod_eq_of_lt (by omega) (by omega)];exact xC q c.toNat oM oM
  rw[hc]at A;have J:(y:Int)<=4294967295:=by unfold dQ at C;omega
  obtain⟨r1,l⟩:∃r,r=y%16:=⟨_,rfl⟩;have j:=ma y J;rw[<-l]at j;have D:r1<16:=oM;obtain⟨t1,a⟩:∃t,t=fK.getD r1 0:=⟨_,rfl⟩;have n:t1<dQ:=a▸tu _;obtain⟨z,hz⟩:=eX ((y/16)^^^t1);have B:z<dQ:=hz▸fJ (by unfold dQ at*;omega) n;have O:bits .xor .u32 ((y:Int)/16) (t1:Int)=(z:Int):=by have h:=xC (y/16) t1 oM (by unfold dQ at n;omega);rw[hz,<-h];rfl
  have N:(z:Int)<=4294967295:=by unfold dQ at B;omega
  obtain⟨r2,f⟩:∃r,r=z%16:=⟨_,rfl⟩;have g:=ma z N;rw[<-f]at g;have K:r2<16:=oM;obtain⟨t2,d⟩:∃t,t=fK.getD r2 0:=⟨_,rfl⟩;have m:t2<dQ:=d▸tu _;obtain⟨v,hv⟩:=eX ((z/16)^^^t2);have u:v<dQ:=hv▸fJ (by unfold dQ at*;omega) m;have P:bits .xor .u32 ((z:Int)/16) (t2:Int)=(v:Int):=by have h:=xC (z/16) t2 oM (by unfold dQ at m;omega);rw[hv,<-h];rfl
  have H:(v:Int)<=4294967295:=by unfold dQ at u;omega
  have HQ:Hid (v=sx (s.data.toList.take (k+1)) 4294967295):=by show _=_;rw[vM s k G,uf,<-Hq.out,<-hc,<-hy,nj,<-l,<-a,<-hz,<-f,<-d,<-hv]
  have I:=hD a;have E:=hD d;clear hc hy C p l a hz B f d hv u n m M Hq
  go_wp2_with fail
  refine(wT pre b r1 _ HT D).mono ?_;rintro e w2 ⟨rfl,h2,s2⟩;rw[<-I.out];have x:=hD h2;have o:=hD (HS.trans s2);clear h2 s2 HT HS
  go_wp2_with fail
  refine(wT pre b r2 _ x K).mono ?_;rintro e w3 ⟨rfl,h3,s3⟩;rw[<-E.out];have F:=hD h3;have L:=hD (o.trans s3);clear h3 s3 x o
  go_wp2
  go_roundw
  .exact⟨k+1,v,oM,by go_num,rfl,H,HQ,F,L⟩
  exact mS
 have Q:=ya q oM
 go_wp2
 go_ret;have:s.data.toList.take k=s.data.toList:=pK (by simp;omega);have h:=Hq;rw[this]at h;refine⟨?_,HT,HS⟩;unfold qX;rw[<-h];have e:((4294967295-q:Nat):Int)=4294967295-(q:Int):=oM;rw[e];rfl
end
end Go.Proofs.YtapijhhmjjplmaaGreatDoor

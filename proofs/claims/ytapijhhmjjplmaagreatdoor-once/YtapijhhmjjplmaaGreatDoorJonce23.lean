import Derived.Test.YtapijhhmjjplmaaGreatDoorJonce7
import Derived.Test.YtapijhhmjjplmaaGreatDoorJonce22
namespace Go.Proofs.YtapijhhmjjplmaaGreatDoor
set_option linter.all false
set_option maxRecDepth 100000
set_option maxHeartbeats 4000000
open Go.Proofs.Tryz
variable {ops:Array Oper}{Q:Exit→Act→World→Prop}{ss:List (List UInt8)}{l p:List ByteArray}{c:Nat}{a:Nat→Addr}{o:Oper}{E:Prop}{T:cS}{w w':World}
section
open Go.RowKit Go.Maps
def vD(T:cS)(l:List ByteArray):ByteArray:=if oN T l≠0 then⟨#[]⟩else i8 T l
theorem GS{T:cS}(h:eB T [] l≠0):oN T l=eB T [] l/\vD T l=⟨#[]⟩:=by
 have e:oN T l=eB T [] l:=by unfold oN;rw[dq h]
 exact⟨e,by unfold vD;rw[dq (e▸h)]⟩
theorem GH{T:cS}(h:eB T [] l=0)(b:eO T l=false):oN T l=7/\vD T l=⟨#[]⟩:=by
 have e:oN T l=7:=by
  unfold oN;rw[dj (by rw[h];simp)];unfold eO at b;split
  .rename_i x hx;rw[hx]at b;simp at b;rw[dq b]
  .rfl
 exact⟨e,by unfold vD;rw[dq (by rw[e];decide)]⟩
theorem E7{T:cS}(h:eB T [] l=0)(b:eO T l=true):oN T l=0/\vD T l=i8 T l:=by
 have e:oN T l=0:=by
  unfold oN;rw[dj (by rw[h];simp)];unfold eO at b;split
  .rename_i x hx;rw[hx]at b;simp at b;rw[dj (by rw[b];simp)]
  rename_i hx;rw[hx]at b;cases b
 exact⟨e,by unfold vD;rw[dj (by rw[e];simp)]⟩
theorem uG{T:cS}(h:eB T [] l=0):dK T l:=by
 by_cases h0:l=[]
 .exact .inl h0
 have:=nH h h0;exact .inr this
theorem EU(ba:Nat)(S:Nat->Prop)(t:Nat)(T:cS)(r v:List ByteArray->Nat)(a:Nat->Addr)(m:Int)(x:Value)(l:List ByteArray)(w:World)(h:dC w S t T r v)(y:eN T)(hv:fp l)(B:l.length<=8)(z:je w x l)(A:w.cell? ⟨ba,1,none⟩=some (eM t))(u:eS w a m):
  Calls prog 167 #[.pointer (some ⟨ba,1,none⟩),x] w λe w'=>e=.returned (.tuple #[.string (vD T l),fg a (oN T l)])/\Below w.heap.size w w':=by
 have HF:=hD (qI ba S t T r v a x l w h y hv B z A u.sent.v5 u.sent.v6);have n:Hid (∀w',Below w.heap.size w w'->eS w' a m/\dC w' S t T r v):=λw' hb=>⟨u.on hb,h.on (U:=λ_=>False) (cN hb) (λ_ _ h=>h)⟩
 clear h y z A u;rcases fT T l []with hz|hz|hz
 .have d:=uG hz;have c:gJ T r l=.pointer (some ⟨r l,0,none⟩):=by unfold gJ;rw[dq hz];rfl
  rw[hz,c,show fg a 0=.nilIface from rfl]at HF;cases hf:eO T l
  .obtain⟨e1,e2⟩:=GH hz hf;rw[e1,e2];have HN:Hid (∀w1,Below w.heap.size w w1->w1.cell? ⟨6,0,none⟩=some (rv (a 6))/\Calls prog 226 #[.pointer (some ⟨r l,0,none⟩)] w1 λe w'=>e=.returned (.bool true)/\w1=w'):=λw1 hb=>by obtain⟨o,i⟩:=n w1 hb;have:=i.isDir l d;rw[hf]at this;exact⟨o.sent.v6,this⟩
   clear hz d c hf e1 e2;go_enter func167,ntmps167
   go_wp2_with (first|(go_at_call 225;refine HF.mono ?_;rintro e w1 ⟨rfl,b⟩;obtain⟨q,f⟩:=HN w1 b;have k:Hid (Calls prog 226 #[.pointer (some ⟨r l,0,none⟩)] w1 λe w'=>e=.returned (.bool true)/\w1=w'):=f;have g:Hid (Below w.heap.size w w1):=b;clear b f)|(go_at_call 226;refine k.mono ?_;rintro e w2 ⟨rfl,rfl⟩))
   go_quiet (fail)
   go_wp2
   refine gh (lB rfl _ _ _) rfl ?_;exact⟨rfl,cR g _⟩
  obtain⟨e1,e2⟩:=E7 hz hf;rw[e1,e2];have HN:Hid (∀w1,Below w.heap.size w w1->w1.cell? ⟨r l,0,none⟩=some (.string (i8 T l))/\Calls prog 226 #[.pointer (some ⟨r l,0,none⟩)] w1 λe w'=>e=.returned (.bool false)/\w1=w'):=λw1 hb=>by obtain⟨o,i⟩:=n w1 hb;have:=i.isDir l d;rw[hf]at this;exact⟨by rw[cG (i.node l d)];rfl,this⟩
  clear hz d c hf e1 e2;go_enter func167,ntmps167
  go_wp2_with (first|(go_at_call 225;refine HF.mono ?_;rintro e w1 ⟨rfl,b⟩;obtain⟨q,f⟩:=HN w1 b;have k:Hid (Calls prog 226 #[.pointer (some ⟨r l,0,none⟩)] w1 λe w'=>e=.returned (.bool false)/\w1=w'):=f;have g:Hid (Below w.heap.size w w1):=b;clear b f)|(go_at_call 226;refine k.mono ?_;rintro e w2 ⟨rfl,rfl⟩))
  refine gh (lB rfl _ _ _) rfl ?_;exact⟨rfl,g⟩
 all_goals
  obtain⟨e1,e2⟩:=GS (T:=T) (l:=l) (by rw[hz];decide);have c:gJ T r l=.pointer none:=by unfold gJ;rw[dj (by rw[hz];decide)]
  rw[e1,e2];obtain⟨ad,p⟩:=eX (a (eB T [] l-1));have j:fg a (eB T [] l)=rv ad:=by rw[p,hz];rfl
  rw[j];rw[c,j]at HF;clear hz c e1 e2 j p;go_enter func167,ntmps167
  go_wp2_with (go_at_call 225;refine HF.mono ?_;rintro e w1 ⟨rfl,b⟩;have g:Hid (Below w.heap.size w w1):=b;clear b)
  refine gh (lB rfl _ _ _) rfl ?_;exact⟨rfl,g⟩
theorem Gz(ba:Nat)(bd:Array Value)(S:Nat->Prop)(T:cS)(a:Nat->Addr)(m:Int)(s:ByteArray)(w:World)(h:gd w S ba bd T)(t:eN T)(r:eS w a m)(u:s.size<=262144):
  Calls prog 94 #[yP ba,.int .i64 0,.string s] w λe w'=>e=.returned (.tuple #[.string (getD T s),fg a (qx T s)])/\Below w.heap.size w w':=by
 obtain⟨R,rb,nb,mb,h⟩:=h;have HN:=hD (pq s w a m r.sent.v4 r.max u);have p:Hid (∀w',Below w.heap.size w w'->∀nv l,cZ s=some l->gt w' nv l->Calls prog 167 #[.pointer (yS ba 1),nv] w' λe k=>e=.returned (.tuple #[.string (vD T l),fg a (oN T l)])/\Below w'.heap.size w' k):=λw' hb nv l hl f=>by have h1:=h.on (U:=λ_=>False) (cN hb) (λ_ _ h=>h);have hv:=dR hl;exact EU ba _ rb T nb mb a m nv l w' h1.tree t hv.1 hv.2 f.at h1.c1 (r.on hb)
 obtain⟨cc,i⟩:∃c,c=fg a (qx T s):=⟨_,rfl⟩;obtain⟨dd,j⟩:∃c,c=getD T s:=⟨_,rfl⟩;rw[<-i,<-j];have HX:Hid (cc=fg a (qx T s)/\dd=getD T s):=⟨i,j⟩;clear h t r i j;go_enter func94,ntmps94
 go_wp2_with fail
 refine HN.mono ?_;rintro e w1 ⟨v,c,rfl,b,⟨l,hl,rfl,f⟩|⟨hl,rfl⟩⟩
 .have d:=hD b;rw[show fg a 0=.nilIface from rfl]
  have HR:Hid (Calls prog 167 #[.pointer (yS ba 1),v] w1 λe k=>e=.returned (.tuple #[.string dd,cc])/\Below w1.heap.size w1 k):=by
   have h1:=p w1 b v l hl f;have e1:qx T s=oN T l:=by unfold qx;rw[hl]
   have e2:getD T s=vD T l:=by
    unfold getD vD;rw[e1,hl];by_cases h0:oN T l≠0
    .rw[dq h0,dq h0]
    rw[dj h0,dj h0];rfl
   rw[<-e1,<-e2,<-HX.out.1,<-HX.out.2]at h1;exact h1
  clear b hl f
  go_wp2_with (go_at_call 167;refine HR.mono ?_;rintro e w2 ⟨rfl,n⟩;have q:Hid (Below w.heap.size w w2):=d.trans (n.mono d.size);clear n)
  refine gh (lB rfl _ _ _) rfl ?_;exact⟨rfl,q⟩
 have d:=hD b;obtain⟨e1,e2⟩:=Iq (T:=T) hl;obtain⟨ad,o⟩:=eX (a 4);have g:fg a 5=rv ad:=by rw[o];rfl
 rw[g];have HZ:Hid (cc=rv ad/\dd=⟨#[]⟩):=⟨by rw[HX.out.1,e1,g],HX.2.trans e2⟩;clear b hl e1 e2 g o
 go_wp2
 refine gh (lB rfl _ _ _) rfl ?_;rw[HZ.out.1,HZ.out.2];exact⟨rfl,d⟩
section
variable (w0:World) (a:Nat->Addr) (m:Int) (V0:eS w0 a m) (ba:Nat) (bd:Array Value) (S:Nat->Prop) (T:cS) (s d:ByteArray) (w:World)
theorem kZ{w0 w:World}{a:Nat->Addr}{m:Int}(V0:eS w0 a m)(b:Below w0.heap.size w0 w):eS w a m:=V0.on b
theorem D3(w0:World)(a:Nat->Addr)(m:Int)(V0:eS w0 a m)(ba:Nat)(bd:Array Value)(S:Nat->Prop)(T:cS)(s d:ByteArray)(w:World)(h:gd w S ba bd T)(p:eN T)(o:Below w0.heap.size w0 w)(q:∀g,S g->w0.heap.size<=g)(n:∀g,S g->g<w.heap.size)(r:s.size<=262144)(u:d.size<=262144):
  Calls prog 49 #[yP ba,.string s,.string d] w λe w'=>e=.returned (.int .i64 (da (λl=>iG T l d) s:Nat))/\gd w' (λg=>S g\/w.heap.size<=g) ba bd (dz T (λl=>ia T l d) s)/\cq S w w':=by
 have HP:=hD (Ci ba bd S T a m s d w h p n (kZ V0 o) r u)
 have b:da (λl=>iG T l d) s<=12:=by
  unfold da;split
  .decide
  .decide
  .rename_i l _ _;have:=At T s;show iG T l d<=12;unfold iG
   have h2:dD T l<=7:=by
    unfold dD;have:=fT T l.dropLast [];split
    .omega
    .split<;>omega
   split
   .decide
   .split
    .omega
    .split
     .split<;>decide
     split<;>decide
 obtain⟨c,hc⟩:=eX (da (λl=>iG T l d) s);obtain⟨T2,i⟩:∃t,t=dz T (λl=>ia T l d) s:=⟨_,rfl⟩;rw[<-hc,<-i]at HP⊢;rw[<-hc]at b;obtain⟨ev,f⟩:=eX (fg a c);have HN:Hid (∀w',cq S w w'->Calls prog 43 #[ev] w' λe w2=>e=.returned (.tuple #[.int .i64 c,.int .i64 (-1)])/\Below w'.heap.size w' w2):=λw' s'=>by rw[f];exact gT c b a w' ((kZ V0 (o.trans (s'.below q o.size))).sent)
 have j:Hid (Calls prog 161 #[.pointer (yS ba 1),.string s,.string d] w λe w'=>e=.returned ev/\gd w' (λg=>S g\/w.heap.size<=g) ba bd T2/\cq S w w'):=f▸HP
 have HW:Hid (Calls prog 92 #[yP ba,.string s,.string d] w λe w'=>e=.returned ev/\Hid (gd w' (λg=>S g\/w.heap.size<=g) ba bd T2)/\Hid (cq S w w')):=by
  clear HN hc i f h p HP V0 q n o r u b;go_enter func92,ntmps92
  go_wp2_with (go_at_call 161;refine j.mono ?_;rintro e w1 ⟨rfl,H1,S1⟩)
  go_ret;exact⟨rfl,H1,S1⟩
 clear hc i f h p HP j b V0 q n o;go_enter func49,ntmps49
 go_wp2_with (first|(go_at_call 92;refine HW.mono ?_;rintro e w1 ⟨rfl,H1,S1⟩)|(go_at_call 43;refine(HN _ S1.out).mono ?_;rintro e w2 ⟨rfl,B2⟩;have k:Hid (Below w1.heap.size w1 w2):=B2;clear B2))
 go_ret;exact⟨rfl,H1.on (U:=λ_=>False) (cN k) (λ_ _ h=>h),S1.out.trans (cN k)⟩
end
end
section
open Go.RowKit Go.Maps
theorem zS(T:cS)(l:List ByteArray):dD T l<=7:=by
 unfold dD;have:=fT T l.dropLast [];split
 .omega
 .split<;>omega
theorem Ik(T:cS)(s:ByteArray):da (eY T) s<=12:=by
 unfold da;split
 .decide
 .decide
 .rename_i l _ _;have:=zS T l;unfold eY;split
  .omega
  .split
   .decide
   .split<;>decide
theorem Fy(T:cS)(s:ByteArray):da (dV T) s<=12:=by
 unfold da;split
 .decide
 .decide
 .rename_i l _ _;have:=zS T l;unfold dV;split
  .omega
  .split
   .decide
   .split<;>decide
theorem Md(T:cS)(s:ByteArray):qx T s<=12:=by
 unfold qx;split
 .decide
 .rename_i l _;have:=fT T l [];unfold oN;split
  .omega
  .split
   .split<;>decide
   .decide
section
variable (w0:World) (a:Nat->Addr) (m:Int) (V0:eS w0 a m) (ba:Nat) (bd:Array Value) (S:Nat->Prop) (T:cS) (s:ByteArray) (w:World)
theorem zB(w0:World)(a:Nat->Addr)(m:Int)(V0:eS w0 a m)(ba:Nat)(bd:Array Value)(S:Nat->Prop)(T:cS)(s:ByteArray)(w:World)(h:gd w S ba bd T)(n:eN T)(l:Below w0.heap.size w0 w)(o:∀g,S g->w0.heap.size<=g)(k:∀g,S g->g<w.heap.size)(p:s.size<=262144):
  Calls prog 27 #[yP ba,.string s] w λe w'=>e=.returned (.int .i64 (da (eY T) s:Nat))/\gd w' (λg=>S g\/w.heap.size<=g) ba bd (dz T (ff T) s)/\cq S w w':=by
 have HP:=hD (Bc ba bd S T a m s w h n k (kZ V0 l) p);have b:=Ik T s;obtain⟨c,hc⟩:=eX (da (eY T) s);obtain⟨T2,f⟩:∃t,t=dz T (ff T) s:=⟨_,rfl⟩;rw[<-hc,<-f]at HP⊢;rw[<-hc]at b;obtain⟨ev,d⟩:=eX (fg a c);have HN:Hid (∀w',cq S w w'->Calls prog 43 #[ev] w' λe w2=>e=.returned (.tuple #[.int .i64 c,.int .i64 (-1)])/\Below w'.heap.size w' w2):=λw' s'=>by rw[d];exact gT c b a w' ((kZ V0 (l.trans (s'.below o l.size))).sent)
 have i:Hid (Calls prog 88 #[.pointer (yS ba 1),.string s] w λe w'=>e=.returned ev/\gd w' (λg=>S g\/w.heap.size<=g) ba bd T2/\cq S w w'):=d▸HP
 have HW:Hid (Calls prog 46 #[yP ba,.string s] w λe w'=>e=.returned ev/\Hid (gd w' (λg=>S g\/w.heap.size<=g) ba bd T2)/\Hid (cq S w w')):=by
  clear HN hc f d h n HP V0 o k l p b;go_enter func46,ntmps46
  go_wp2_with (go_at_call 88;refine i.mono ?_;rintro e w1 ⟨rfl,H1,S1⟩)
  go_ret;exact⟨rfl,H1,S1⟩
 clear hc f d h n HP i b V0 o k l;go_enter func27,ntmps27
 go_wp2_with (first|(go_at_call 46;refine HW.mono ?_;rintro e w1 ⟨rfl,H1,S1⟩)|(go_at_call 43;refine(HN _ S1.out).mono ?_;rintro e w2 ⟨rfl,B2⟩;have j:Hid (Below w1.heap.size w1 w2):=B2;clear B2))
 go_ret;exact⟨rfl,H1.on (U:=λ_=>False) (cN j) (λ_ _ h=>h),S1.out.trans (cN j)⟩
theorem xm(w0:World)(a:Nat->Addr)(m:Int)(V0:eS w0 a m)(ba:Nat)(bd:Array Value)(S:Nat->Prop)(T:cS)(s:ByteArray)(w:World)(h:gd w S ba bd T)(l:eN T)(k:Below w0.heap.size w0 w)(n:∀g,S g->w0.heap.size<=g)(o:s.size<=262144):
  Calls prog 56 #[yP ba,.string s] w λe w'=>e=.returned (.int .i64 (da (dV T) s:Nat))/\gd w' (λg=>S g\/w.heap.size<=g) ba bd (dz T (d9 T) s)/\cq S w w':=by
 have HP:=hD (zO ba bd S T a m s w h l (kZ V0 k) o);have b:=Fy T s;obtain⟨c,hc⟩:=eX (da (dV T) s);obtain⟨T2,f⟩:∃t,t=dz T (d9 T) s:=⟨_,rfl⟩;rw[<-hc,<-f]at HP⊢;rw[<-hc]at b;obtain⟨ev,d⟩:=eX (fg a c);have HN:Hid (∀w',cq S w w'->Calls prog 43 #[ev] w' λe w2=>e=.returned (.tuple #[.int .i64 c,.int .i64 (-1)])/\Below w'.heap.size w' w2):=λw' s'=>by rw[d];exact gT c b a w' ((kZ V0 (k.trans (s'.below n k.size))).sent)
 have i:Hid (Calls prog 169 #[.pointer (yS ba 1),.string s] w λe w'=>e=.returned ev/\gd w' (λg=>S g\/w.heap.size<=g) ba bd T2/\cq S w w'):=d▸HP
 have HW:Hid (Calls prog 98 #[yP ba,.string s] w λe w'=>e=.returned ev/\Hid (gd w' (λg=>S g\/w.heap.size<=g) ba bd T2)/\Hid (cq S w w')):=by
  clear HN hc f d h l HP V0 n k o b;go_enter func98,ntmps98
  go_wp2_with (go_at_call 169;refine i.mono ?_;rintro e w1 ⟨rfl,H1,S1⟩)
  go_ret;exact⟨rfl,H1,S1⟩
 clear hc f d h l HP i b V0 n k;go_enter func56,ntmps56
 go_wp2_with (first|(go_at_call 98;refine HW.mono ?_;rintro e w1 ⟨rfl,H1,S1⟩)|(go_at_call 43;refine(HN _ S1.out).mono ?_;rintro e w2 ⟨rfl,B2⟩;have j:Hid (Below w1.heap.size w1 w2):=B2;clear B2))
 go_ret;exact⟨rfl,H1.on (U:=λ_=>False) (cN j) (λ_ _ h=>h),S1.out.trans (cN j)⟩
theorem Ei(w0:World)(a:Nat->Addr)(m:Int)(V0:eS w0 a m)(ba:Nat)(bd:Array Value)(S:Nat->Prop)(T:cS)(s:ByteArray)(w:World)(h:gd w S ba bd T)(l:eN T)(k:Below w0.heap.size w0 w)(n:s.size<=262144):
  Calls prog 51 #[yP ba,.int .i64 0,.string s] w λe w'=>e=.returned (.tuple #[.string (getD T s),.int .i64 (qx T s:Nat),.int .i64 (-1)])/\Below w.heap.size w w':=by
 have HR:=hD (Gz ba bd S T a m s w h l (kZ V0 k) n);have b:=Md T s;obtain⟨c,hc⟩:=eX (qx T s);obtain⟨dd,g⟩:∃c,c=getD T s:=⟨_,rfl⟩;rw[<-hc,<-g]at HR⊢;rw[<-hc]at b;obtain⟨ev,d⟩:=eX (fg a c);rw[<-d]at HR;have HN:Hid (∀w',Below w.heap.size w w'->Calls prog 43 #[ev] w' λe w2=>e=.returned (.tuple #[.int .i64 c,.int .i64 (-1)])/\Below w'.heap.size w' w2):=λw' h'=>by rw[d];exact gT c b a w' ((kZ V0 (k.trans (h'.mono k.size))).sent)
 clear hc g d h l b V0 k;go_enter func51,ntmps51
 go_wp2_with (first|(go_at_call 94;refine HR.mono ?_;rintro e w1 ⟨rfl,i⟩;have f:Hid (Below w.heap.size w w1):=i;clear i)|(go_at_call 43;refine(HN _ f).mono ?_;rintro e w2 ⟨rfl,B2⟩;have j:Hid (Below w.heap.size w w2):=f.trans (B2.mono f.size);clear B2))
 refine gh (Lu rfl _ _ _) rfl ?_;exact⟨rfl,j⟩
end
end
section
open Go.RowKit Go.Maps
theorem xY:(prog.info? 52).map (λi=>(i.zero,i.size,i.bytes))=some (some (.agg #[.string ⟨#[]⟩,.bool false,.int .i64 0]),3,32):=kR
theorem xf(h:ss.Perm ((dZ T p).map bl)):ss.mergeSort (λx y=>decide (x<=y))=(dh T p).map bl:=by
 have h1:(ss.mergeSort (λx y=>decide (x<=y))).Pairwise (λa b=>decide (a<=b)=true):=List.pairwise_mergeSort (λa b c h1 h2=>by simp at*;exact List.le_trans h1 h2) (λa b=>by simp;exact List.le_total a b) _;have h2:((dh T p).map bl).Pairwise (λa b=>decide (a<=b)=true):=by rw[PY];exact ms T p
 have hp:(ss.mergeSort (λx y=>decide (x<=y))).Perm ((dh T p).map bl):=(List.mergeSort_perm _ _).trans (h.trans ((fh T p).symm.map bl));exact hp.eq_of_pairwise (λ_ _ _ _ h1 h2=>by simp at h1 h2;exact QQ h1 h2) h1 h2
theorem yX(l:List ByteArray):(l.map bl).map encStr=em l:=by
 unfold em;rw[NF];apply NG;intro x _;show Value.string _=Value.string x;congr 1
theorem EW{ops:Array Oper}{a:Act}{w:World}{K:Act->World->Prop}{Q:Exit->Act->World->Prop}{E:Prop}{f:Nat}(g:o.guard=none)(x:Operand)(h:Array TypeId)(b:o.op=Op.call {callee:=Callee.value (Operand.func f),args:=#[x],argTypes:=h})(d:Value)(i:a.eval x=d)(c:∀args w,(callFunc f args).run prog w=.ok (.enter f args) w)(v:Value)(hc:Calls prog f #[d] w λe w'=>e=.returned v/\w=w')(j:K (a.put o.dst v) w):if Region.wanted o (yielded ops a.tmps)=true then Oper.wp prog o a w K Q else E:=by
 have hw:Region.wanted o (yielded ops a.tmps)=true:=by simp[Region.wanted,g]
 rw[dq hw];unfold Oper.wp;have e1:a.eval (Operand.func f)=.func (.func f) #[] #[]:=rfl;simp only[execOp,b,resolve,invoke,e1];simp[Deferred.ofValue,i];rw[c];exact hc.mono (by rintro e w' ⟨rfl,rfl⟩;exact j)
theorem xH(S:Nat->Prop)(rb:Nat)(T:cS)(nb mb:List ByteArray->Nat)(p:List ByteArray)(w:World)(h:dC w S rb T nb mb)(hT:eN T)(hp:dK T p)(hf:eO T p=false):
  Calls prog 230 #[eM (nb p)] w λe w'=>∃v,e=.returned v/\w'.ownsRow w.heap.size 52 3 v (sy T p).length (eE (sy T p))/\Below w.heap.size w w':=by
 have HH:=hD h;have HT:=hD hT;obtain⟨i0,ac,ah,ad,an⟩:=Ba xY;obtain⟨D,hD,hK⟩:=h.map p hp hf;have m:=h.node p hp;rw[iK hf]at m;have c1:w.cell? ⟨nb p,1,none⟩=some (.map (some (mb p))):=cG m;obtain⟨d,E⟩:=hK.keys hT;have I:=Bv hT hK;have J:Hid (Calls prog 234 #[.map (some (mb p))] w λe w'=>e=.returned (.func (.func 275) #[] #[yP w.heap.size])/\w'=w.alloc (.cells #[.map (some (mb p))] 272)):=A3 (some (mb p)) w;have B:=tN (mb p) 256 D cY w hD (by unfold maxLen;omega) oM;obtain⟨W1,M⟩:=eX (w.alloc (.cells #[.map (some (mb p))] 272));rw[<-M]at J B;have P:Below w.heap.size w W1:=by rw[M];exact(dw _ _).alloc (cO _) _
 have a6:Hid (Below w.heap.size w W1):=P
 have O:Hid (Calls prog 233 #[.func (.func 275) #[] #[yP w.heap.size]] W1 λe w'=>∃v,e=.returned v/\w'.ownsRow W1.heap.size 9 1 v (dh T p).length (em (dh T p))/\Below W1.heap.size W1 w'):=by
  refine iM B ?_;rintro e w' ⟨v,ss,rfl,h1,h2,h3⟩;have a9:=h1.trans d;rw[xf a9,yX]at h2;have hl:ss.length=(dh T p).length:=by rw[a9.length_eq,iF,(fh T p).length_eq]
  rw[hl]at h2;exact⟨v,rfl,h2,h3⟩
 have W:(dh T p).length<=256:=by rw[(fh T p).length_eq];exact lZ (nz _ _) hT.len
 have a7:Hid (∀nm∈dh T p,nm.size<=16/\∃x,cA T (p++[nm])=some x):=λnm hm=>by have h1:=(fh T p).mem_iff.1 hm;rw[iS hT]at h1;obtain⟨x,hx⟩:=Option.isSome_iff_exists.1 h1;refine⟨?_,x,hx⟩;obtain⟨h2,h3⟩:=dI hx;have h4:=(hT.val x h2).2.2;rw[h3]at h4;exact(io (h4 nm sI)).2
 have HD:Hid (w.ownsMap prog 9 cY (mb p) 256 D):=hD;have HK:Hid (jr T nb p D):=hK;obtain⟨L,hL⟩:=eX (dh T p);have ag:Hid (sy T p=L.map (nM T p)):=by show _=_;rw[hL];rfl
 rw[<-hL]at O W a7;obtain⟨n,hn⟩:=eX (L.length);have y:Hid (n=L.length):=hn;rw[<-hn]at W;obtain⟨bq,C⟩:=eX (nb p);have a2:eM (nb p)=(yP bq):=by rw[C];rfl
 rw[a2];rw[<-C]at c1;have a8:=pr c1;obtain⟨bm,aa⟩:=eX (mb p);rw[<-aa]at c1 J HD;clear h hT hD hK m d E I B M P hL hn C a2 aa;go_enter func230,ntmps230
 go_wp2_with (first|(go_at_call 234;refine J.mono ?_;rintro e w1 ⟨rfl,rfl⟩)|(go_at_call 233;refine O.mono ?_;rintro e w3 ⟨v3,rfl,a,X⟩;have l:Hid (Below w.heap.size w w3):=a6.trans (X.mono a6.size);have z:Hid (je w3 v3 L):=je.of_own a;obtain⟨Z,c3,rfl⟩:=cQ a;rw[<-y.out];rw[<-y.out]at z;clear a X))
 go_loopw [3,14] (λv iv wr=>∃k:Nat,k<=n/\iv=.int .i64 k/\Hid (wr.ownsRow w3.heap.size 52 3 v ((L.take k).map (nM T p)).length (eE ((L.take k).map (nM T p))))/\Hid (Below w3.heap.size w3 wr)) (λ_ i _=>n-(intOf i).toNat)
 .exact⟨0,oM,rfl,LR _ _ _ _,dw _ _⟩
 obtain⟨k,hk,rfl,HO,HB⟩:=hrel;by_cases H:k<n
 .have r:k<L.length:=by rw[<-y.out];exact H
  obtain⟨nm,q⟩:=eX (L[k]);obtain⟨ai,x,hx⟩:=a7 nm (q▸mX _);have s:=hD (l.trans (HB.mono l.size))
  obtain⟨g3,K,ap⟩:∃g3,Z=some (yA g3 0)/\wr.cell? (yA g3 k)=some (.string nm):=by
   rcases z with⟨h,-⟩|⟨g3,c,am,K,al⟩
   .rw[h]at r;cases r
   cases(show Z=some (yA g3 0) from by injection am)
   exact⟨g3,rfl,by rw[HB.out.cell K,al k r,q]⟩
  subst K;have aq:wr.cell? (yA bq 1)=some (.map (some bm)):=by rw[s.out.cell a8];exact c1
  have F:dK T (p++[nm]):=.inr (by rw[hx];rfl);have a4:=dg HD (s.block _ (dN HD));obtain⟨cv,ps,Y,t⟩:=a4.lookup mm La (qJ wr) (zd:=.held (.pointer none)) (zp:=[]) rfl (key:=.string nm) (kl:=.string (bl nm)) (NQ xV (by unfold maxLen;omega));have Q:cv=.pointer (some ⟨nb (p++[nm]),0,none⟩):=by have h1:=HK.at nm (.held (.pointer none));rw[hx]at h1;rw[h1]at t;unfold cY at t;exact FA (Hi (kM t)).1
  subst Q;have a0:=HH.on (U:=λ_=>False) (cN s) (λ_ _ h=>h);have N:=a0.node _ F
  have d0:wr.cell? ⟨nb (p++[nm]),0,none⟩=some (.string x.data):=by
   rw[cG N];have:i8 T (p++[nm])=x.data:=by unfold i8;rw[hx]
   rw[<-this];rfl
  have a1:Hid (∀V,Below w.heap.size w V->Calls prog 226 #[.pointer (some ⟨nb (p++[nm]),0,none⟩)] V λe w'=>e=.returned (.bool x.dir)/\V=w'):=λV hV=>by
   have h1:=HH.on (U:=λ_=>False) (cN hV) (λ_ _ h=>h);have h2:=h1.isDir _ F;have e:eO T (p++[nm])=!x.dir:=by unfold eO;rw[hx]
   rw[e,Bool.not_not]at h2;exact h2
  have ao:=HT.big x (dI hx).1;have G:Hid ((L.take (k+1)).map (nM T p)=(L.take k).map (nM T p)++[(nm,x.dir,x.data.size)]):=by show _=_;rw[sN r,qA,<-q];simp[nM,hx]
  have aj:((L.take k).map (nM T p)).length<=256:=by rw[iF,vx];omega
  obtain⟨R,hR⟩:=eX ((L.take k).map (nM T p));rw[<-hR]at HO G aj;obtain⟨bx,a5⟩:=eX (nb (p++[nm]));rw[<-a5]at Y d0 a1
  have a3:Hid (∀g b W5,W5.ownsRow w3.heap.size 52 3 (.slice (yS g 0) (R.length+1) b) (R.length+1) (eE R++[.string nm,.bool x.dir,.int .i64 x.data.size])->(wr.alloc (.cells #[.string nm,.bool x.dir,.int .i64 x.data.size] 52)).drew.grownBy W5 (Value.ownBlock u3)->Hid (W5.ownsRow w3.heap.size 52 3 (.slice (yS g 0) (R.length+1) b) ((L.take (k+1)).map (nM T p)).length (eE ((L.take (k+1)).map (nM T p))))/\Hid (Below w3.heap.size w3 W5)):=λg b W5 ho hg=>by
   refine⟨?_,?_⟩
   .rw[G.out];exact xu (x:=(nm,x.dir,x.data.size)) ho
   exact((HB.alloc HB.size _).drew).grown hg (by have:=HB.size;simp;omega) (λk hk=>fA HO k hk)
  clear hR a5 q ai hx F a4 t a0 N G
  go_wp2
  go_region_law (first|(refine O8 _ rfl _ _ 48 rfl w3.heap.size 52 i0 (.agg #[.string ⟨#[]⟩,.bool false,.int .i64 0]) 3 32 QC ac ah ad an rfl dE u3 R.length (eE R) rfl (rI (w:=wr) HO _) (yA wr.heap.size 0) 1 1 [.string nm,.bool x.dir,.int .i64 x.data.size] rfl rfl (λj u hj=>ip wr _ _ _ _ j u hj) (by intro u hu;simp at hu;rcases hu with rfl|rfl|rfl<;>rfl) dE (by unfold maxLen;omega) oM (by have:=HB.size;simp;omega) (wr.heap.size+1) sI ?_;intro g b W5 A o ab H;obtain⟨ae,af⟩:=a3 g b W5 A o;clear A o ab H)|(refine EW (f:=226) rfl _ _ rfl (yP bx) rfl (enters_of func226 kR rfl) (.bool x.dir) (a1 _ s.drew) ?_))
  all_goals
   go_wp2
   go_roundw
   .exact⟨k+1,oM,by go_num,ae,af⟩
   exact mS
 have ak:k=n:=oM;subst ak;rw[pK (by rw[<-y.out];exact cO _),<-ag.out]at HO
 go_wp2
 go_ret;exact⟨_,rfl,ii HO l.size,l.trans (HB.mono l.size)⟩
def rT(w:World)(a:Nat->Addr)(T:cS)(l:List ByteArray)(e:Ending)(w':World):Prop:=∃v,e=.returned (.tuple #[v,fg a (vN T l)])/\Below w.heap.size w w'/\(vN T l≠0->v=.slice none 0 0)/\(vN T l=0->w'.ownsRow w.heap.size 52 3 v (sy T l).length (eE (sy T l)))
theorem rT.bad(hc:vN T l=c)(b:c≠0)(d:Below w.heap.size w w'):rT w a T l (.returned (.tuple #[.slice none 0 0,rv (a (c-1))])) w':=
 ⟨_,by rw[hc];unfold fg;rw[dj b],d,λ_=>rfl,λh=>absurd (hc.symm.trans h) b⟩
theorem DQ(C:Nat)(S:Nat->Prop)(z:Nat)(T:cS)(y A:List ByteArray->Nat)(a:Nat->Addr)(m:Int)(D:Value)(l:List ByteArray)(w:World)(h:dC w S z T y A)(E:eN T)(hv:fp l)(H:l.length<=8)(F:je w D l)(G:w.cell? ⟨C,1,none⟩=some (eM z))(B:eS w a m):
  Calls prog 159 #[.pointer (some ⟨C,1,none⟩),D] w λe w'=>rT w a T l e w':=by
 have u:=mZ;have HF:=hD (qI C S z T y A a D l w h E hv H F G B.sent.v5 B.sent.v6);have q:Hid (∀w',Below w.heap.size w w'->eS w' a m/\dC w' S z T y A):=λw' hb=>⟨B.on hb,h.on (U:=λ_=>False) (cN hb) (λ_ _ h=>h)⟩
 have HT:=hD E;have b:vN T l=if eB T [] l≠0 then eB T [] l else if eO T l then 7 else 0:=rfl
 clear h E F G B;rcases fT T l []with hz|hz|hz
 .have i:=uG hz;have f:gJ T y l=.pointer (some ⟨y l,0,none⟩):=by unfold gJ;rw[dq hz];rfl
  rw[hz,dj (by simp)]at b;rw[hz,f,show fg a 0=.nilIface from rfl]at HF;obtain⟨bq,j⟩:=eX (y l);have k:eM (y l)=.pointer (some ⟨bq,0,none⟩):=by rw[j];rfl
  rw[<-j]at HF;cases hf:eO T l
  .rw[hf]at b;have g:=hD b;have HN:Hid (∀w1,Below w.heap.size w w1->(Calls prog 226 #[.pointer (some ⟨bq,0,none⟩)] w1 λe w'=>e=.returned (.bool true)/\w1=w')/\Calls prog 230 #[.pointer (some ⟨bq,0,none⟩)] w1 λe w'=>∃v,e=.returned v/\w'.ownsRow w1.heap.size 52 3 v (sy T l).length (eE (sy T l))/\Below w1.heap.size w1 w'):=λw1 hb=>by obtain⟨r,o⟩:=q w1 hb;have h1:=o.isDir l i;have h2:=xH S z T y A l w1 o HT i hf;rw[hf]at h1;rw[k]at h1 h2;exact⟨h1,h2⟩
   clear hz i f hf b j k;go_enter func159,ntmps159
   go_wp2_with (first|(go_at_call 225;refine HF.mono ?_;rintro e w1 ⟨rfl,d⟩;have c:Hid (Below w.heap.size w w1):=d;clear d)|(go_at_call 226;refine(HN w1 c).1.mono ?_;rintro e w2 ⟨rfl,rfl⟩)|(go_at_call 230;refine(HN w1 c).2.mono ?_;rintro e w3 ⟨v,rfl,ho,s⟩;have HP:Hid (rT w a T l (.returned (.tuple #[v,.nilIface])) w3):=(⟨v,by rw[g.out];rfl,c.trans (s.mono c.size),λh=>absurd g h,λ_=>ii ho c.size⟩);clear ho s))
   refine gh (lB rfl _ _ _) rfl ?_;exact HP
  rw[hf]at b;have g:=hD b;have HN:Hid (∀w1,Below w.heap.size w w1->w1.cell? ⟨6,0,none⟩=some (rv (a 6))/\Calls prog 226 #[.pointer (some ⟨bq,0,none⟩)] w1 λe w'=>e=.returned (.bool false)/\w1=w'):=λw1 hb=>by obtain⟨r,o⟩:=q w1 hb;have h1:=o.isDir l i;rw[hf]at h1;rw[k]at h1;exact⟨r.sent.v6,h1⟩
  clear hz i f hf b j k;go_enter func159,ntmps159
  go_wp2_with (first|(go_at_call 225;refine HF.mono ?_;rintro e w1 ⟨rfl,d⟩;have c:Hid (Below w.heap.size w w1):=d;have x:=(HN w1 d).1;clear d)|(go_at_call 226;refine(HN w1 c).2.mono ?_;rintro e w2 ⟨rfl,rfl⟩))
  go_quiet (fail)
  go_wp2
  refine gh (lB rfl _ _ _) rfl ?_;exact rT.bad g dE (cR c _)
 all_goals
  rw[dq (by rw[hz];decide)]at b;have f:gJ T y l=.pointer none:=by unfold gJ;rw[dj (by rw[hz];decide)]
  obtain⟨ad,n⟩:=eX (a (eB T [] l-1));have p:fg a (eB T [] l)=rv ad:=by rw[n,hz];rfl
  rw[f,p]at HF;rw[hz]at n b;have g:=hD b;have t:=hD n;clear hz f p n b;go_enter func159,ntmps159
  go_wp2_with (go_at_call 225;refine HF.mono ?_;rintro e w1 ⟨rfl,d⟩;have c:Hid (Below w.heap.size w w1):=d;clear d)
  refine gh (lB rfl _ _ _) rfl ?_;rw[t.out];exact rT.bad g dE c
theorem zj(d:Nat)(n:Array Value)(S:Nat->Prop)(T:cS)(a:Nat->Addr)(m:Int)(f:Value)(l:List ByteArray)(w:World)(h:gd w S d n T)(g:eN T)(hv:fp l)(i:l.length<=8)(j:je w f l)(k:eS w a m):
  Calls prog 91 #[yP d,.int .i64 0,f] w λe w'=>rT w a T l e w':=by
 obtain⟨R,rb,nb,mb,h⟩:=h;have HL:=DQ d _ rb T nb mb a m f l w h.tree g hv i j h.c1 k;have b:Hid (Calls prog 159 #[.pointer (yS d 1),f] w λe w'=>∃v ev,e=.returned (.tuple #[v,ev])/\Hid (rT w a T l (.returned (.tuple #[v,ev])) w')):=by refine iM HL ?_;rintro e w' ⟨v,rfl,h1⟩;exact⟨v,_,rfl,v,rfl,h1⟩
 clear h HL g j k hv i;go_enter func91,ntmps91
 go_wp2_with (go_at_call 159;refine b.mono ?_;rintro e w1 ⟨v,ev,rfl,HP⟩)
 refine gh (lB rfl _ _ _) rfl ?_;exact HP
structure og (w:World) (H B:Nat) (most:Int) (lv:Value) (R:List (ByteArray×Bool×Nat)) (ec:Int) (ov:Bool):Prop where
 most:w.heap[H]?=some (.cells #[.int .i64 most] 3 (0,0))
 l:w.heap[H+1]?=some (.cells #[lv] 48 (0,0))
 e:w.heap[H+2]?=some (.cells #[.int .i64 ec] 3 (0,0))
 at_:w.heap[H+3]?=some (.cells #[.int .i64 (-1)] 3 (0,0))
 over:w.heap[H+4]?=some (.cells #[.bool ov] 4 (0,0))
 more:w.heap[H+5]?=some (.cells #[.bool false] 4 (0,0))
 own:w.ownsRow B 52 3 lv R.length (eE R)
 hB:H+6<=B/\B<=w.heap.size
def Ii(H:Nat)(x ev:Value):Array Value:=#[x,ev,yP (H+4),yP (H+5),yP (H+2),yP (H+3),yP (H+1),yP H]
def oW(most:Int)(n:Nat):Bool:=decide (0<most)&&decide ((n:Int)=most)
def sO(H B:Nat):Nat->Prop:=λg=>g=H+1\/g=H+4\/B<=g
theorem Gr(H B:Nat)(N:Int)(lv:Value)(R:List (ByteArray×Bool×Nat))(x:ByteArray×Bool×Nat)(w:World)(h:og w H B N lv R 0 false)(P:R.length<=256)(O:yD N):
  Calls prog 48 (Ii H (.agg #[.string x.1,.bool x.2.1,.int .i64 x.2.2]) .nilIface) w λe w'=>e=.returned (.bool (!(oW N (R.length+1))))/\(∃lv',og w' H B N lv' (R++[x]) 0 (oW N (R.length+1)))/\cq (sO H B) w w':=by
 obtain⟨i0,C,E,D,F⟩:=Ba xY;have G:=mZ;have M:=yH;obtain⟨nm,dr,sz⟩:=x;have HH:=hD h;obtain⟨y,L⟩:=h.hB;have c4:w.cell? (yA (H+4) 0)=some (.bool false):=cG h.over;have c1:w.cell? (yA (H+1) 0)=some lv:=cG h.l;obtain⟨ao,cp,rfl⟩:=cQ h.own;have HO:=hD h.own;have l1:H+1<w.heap.size:=oM;have l4:H+4<w.heap.size:=oM;have s:Hid (∀j u,[Value.string nm,Value.bool dr,Value.int .i64 sz][j]?=some u->((w.alloc (.cells #[.string nm,.bool dr,.int .i64 sz] 52)).alloc (.cells #[.string nm,.bool dr,.int .i64 sz] 52)).cell? (((yA (w.heap.size+1) 0):Addr).add j)=some u):=by have v:=ip (w.alloc (.cells #[.string nm,.bool dr,.int .i64 sz] 52)) (.string nm) (.bool dr) (.int .i64 sz) 52;have es:(w.alloc (.cells #[.string nm,.bool dr,.int .i64 sz] 52)).heap.size=w.heap.size+1:=sI;rw[es]at v;exact v
 obtain⟨q,hq⟩:=eX (oW N (R.length+1));rw[<-hq];have HQ:=hD hq;clear hq;unfold Ii;unfold yD at O;obtain⟨I,K⟩:=O;clear h;go_enter func48,ntmps48
 go_wp2_with (at_builtin;refine Rj _ rfl _ _ 48 rfl B 52 i0 (.agg #[.string ⟨#[]⟩,.bool false,.int .i64 0]) 3 32 QC C E D F rfl dE _ R.length (eE R) rfl (rI (rI HO _) _) _ 1 1 [.string nm,.bool dr,.int .i64 sz] rfl rfl s (by intro u hu;simp at hu;rcases hu with rfl|rfl|rfl<;>rfl) (by unfold maxLen;omega) oM (by simp;omega) ?_)
 intro v' w4 d a _ A;obtain⟨n,i,rfl⟩:=cQ d;have c:∀k,k<B->w4.heap[k]?=w.heap[k]?:=λk hk=>by rw[a.block k (by simp;omega) (λe=>by have:=fA HO.out k e.symm;omega),cK _ _ (by simp;omega),cK _ _ (by omega)]
 have t:cq (sO H B) w w4:=by refine((cq.alloc0 w (.cells #[.string nm,.bool dr,.int .i64 sz] 52)).alloc (.cells #[.string nm,.bool dr,.int .i64 sz] 52)).trans ?_;exact⟨a.os,a.tape,a.output,a.size,λk hk hn=>a.block k hk (λe=>hn (.inr (.inr (fA HO k e.symm))))⟩
 have r:Hid (cq (sO H B) w w4/\w4.ownsRow B 52 3 (.slice n (R.length+1) i) (R++[(nm,dr,sz)]).length (eE (R++[(nm,dr,sz)]))/\∀k,k<B->w4.heap[k]?=w.heap[k]?):=⟨t,(xu (x:=(nm,dr,sz)) d).out,c⟩;have d1:w4.heap[H+1]?=some (.cells #[.slice ao R.length cp] 48 (0,0)):=by rw[c _ (by omega)];exact HH.l
 have d0:w4.heap[H]?=some (.cells #[.int .i64 N] 3 (0,0)):=by rw[c _ (by omega)];exact HH.most
 have d4:w4.heap[H+4]?=some (.cells #[.bool false] 4 (0,0)):=by rw[c _ (by omega)];exact HH.over
 have e1:w4.cell? (yA (H+1) 0)=some (.slice ao R.length cp):=cG d1;have e0:w4.cell? (yA H 0)=some (.int .i64 N):=cG d0;have e4:w4.cell? (yA (H+4) 0)=some (.bool false):=cG d4;have f1:=fH w4 (H+1) 0 _ _ d1;have f4:=fH w4 (H+4) 0 _ _ d4;clear d a A c t d0 d1 d4 c1 c4 s HO
 have m:Hid (∀b,b=q->(∃lv',og ((w4.setCell (yA (H+1) 0) (.slice n (R.length+1) i)).setCell (yA (H+4) 0) (.bool b)) H B N lv' (R++[(nm,dr,sz)]) 0 q)/\cq (sO H B) w ((w4.setCell (yA (H+1) 0) (.slice n (R.length+1) i)).setCell (yA (H+4) 0) (.bool b))):=by
  rintro b rfl;obtain⟨hS,hO,hk⟩:=r;have h:=HH;have other:∀k,k<B->k≠H+1->k≠H+4->((w4.setCell (yA (H+1) 0) (.slice n (R.length+1) i)).setCell (yA (H+4) 0) (.bool b)).heap[k]?=w.heap[k]?:=λk z h1 h4=>by rw[lq _ _ _ _ h4,lq _ _ _ _ h1,hk k z]
  refine⟨⟨.slice n (R.length+1) i,?_,?_,?_,?_,?_,?_,?_,?_⟩,(hS.setCell (yA (H+1) 0) (.inl rfl) _).setCell (yA (H+4) 0) (.inr (.inl rfl)) _⟩
  .rw[other _ (by omega) (by omega) (by omega)];exact h.most
  .rw[lq _ _ _ _ (by show H+1≠H+4;omega),gE _ (H+1) 0 _ _ _ (by rw[hk _ (by omega)];exact h.l)];rfl
  .rw[other _ (by omega) (by omega) (by omega)];exact h.e
  .rw[other _ (by omega) (by omega) (by omega)];exact h.at_
  .rw[gE _ (H+4) 0 _ _ _ (by rw[lq _ _ _ _ (by show H+4≠H+1;omega),hk _ (by omega)];exact h.over)];rfl
  .rw[other _ (by omega) (by omega) (by omega)];exact h.more
  .exact cI hO λg hg=>by have:=fA hO g hg;rw[lq _ _ _ _ (by show g≠H+4;omega),lq _ _ _ _ (by show g≠H+1;omega)]
  exact⟨y,by have:=hS.size;simp[World.setCell];omega⟩
 have J:(R.length:Int)<=256:=oM;have f:oW N (R.length+1)=(decide (0<N)&&decide (((R.length:Int)+1)=N)):=rfl;clear r HH;by_cases p:0<N
 .by_cases o:(R.length:Int)+1=N
  .have HV:Hid (true=q):=by rw[HQ.out,f,jX p,jX o];rfl
   have hb:((R.length:Int)+1==N)=true:=by rw[o];simp
   clear f
   go_wp2
   go_ret;obtain⟨h1,h2⟩:=m true HV;exact⟨by rw[<-HV.out];rfl,h1,h2⟩
  have HV:Hid (false=q):=by rw[HQ.out,f,jX p,lW o];rfl
  have hb:((R.length:Int)+1==N)=false:=by rw[tC];exact o
  clear f
  go_wp2
  go_ret;obtain⟨h1,h2⟩:=m false HV;exact⟨by rw[<-HV.out];rfl,h1,h2⟩
 have HV:Hid (false=q):=by rw[HQ.out,f,lW p];rfl
 clear f
 go_wp2
 go_ret;obtain⟨h1,h2⟩:=m false HV;exact⟨by rw[<-HV.out];rfl,h1,h2⟩
end
end Go.Proofs.YtapijhhmjjplmaaGreatDoor

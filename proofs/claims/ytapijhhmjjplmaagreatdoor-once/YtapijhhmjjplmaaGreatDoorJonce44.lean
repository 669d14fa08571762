import Derived.Test.YtapijhhmjjplmaaGreatDoorJonce42
namespace Go.Proofs.YtapijhhmjjplmaaGreatDoor
set_option linter.all false
set_option maxRecDepth 100000
set_option maxHeartbeats 4000000
open Go.Proofs.Tryz
variable {R:Array Value}{s:ByteArray}{st st2:jc}{p:List ByteArray}{bw:Nat}{S H H1 H':Nat→Prop}{T:cS}{sv trv:Value}{w w' w1 w2:World}
section
open Go.RowKit Go.Maps
theorem j7{S':Nat->Prop}{a b c:World}(h:cq S a b)(d:cq S' b c)(f:∀q,S' q->S q\/a.heap.size<=q):cq S a c:=
 ⟨d.os.trans h.os,d.tape.trans h.tape,d.output.trans h.output,lZ h.size d.size,λq hq hn=>by
  rw[d.block q (ny hq h.size) (λe=>by rcases f q e with e|e;exact hn e;omega)]
  exact h.block q hq hn⟩
def g7(d:ByteArray)(j:Nat):ByteArray:=d.extract (96*j) d.size
theorem kF(d:ByteArray)(j:Nat):(g7 d j).size=d.size-96*j:=by unfold g7;rw[mM];omega
theorem Cv(d:ByteArray):g7 d 0=d:=by unfold g7;apply ej;rw[cP];simp[<-dO]
theorem uv(d:ByteArray)(j k:Nat)(a:k<=96)(h:k=96\/(k=(g7 d j).size/\(g7 d j).size<=96)):(g7 d j).extract 0 k=eZ d j:=by
 have hz:=kF d j;unfold g7 eZ;apply ej;rw[cP,cP,cP,FH,K8];have e:=dO d;apply PD;intro i;rw[LZ,LZ,NH];rcases h with rfl|⟨h1,h2⟩
 .split
  .rw[dq (by omega)]
  rename_i hn;split
  .rw[II (by omega)]
  .rfl
 .split
  .rw[dq (by omega)]
  rename_i hn;split
  .rw[II (by omega)]
  .rfl
theorem ua(d:ByteArray)(j k:Nat)(h:k=96\/(k=(g7 d j).size/\(g7 d j).size<=96)):(g7 d j).extract k (g7 d j).size=g7 d (j+1):=by
 have hz:=kF d j;have a:=kF d (j+1);rcases h with rfl|⟨h1,h2⟩
 .rw[hz];unfold g7;apply ej;rw[cP,cP,cP];have e:=dO d;apply PD;intro i;rw[LZ,NH,LZ,NH,LZ,NH];have e3:96*j+(96+i)=96*(j+1)+i:=oM;rw[e3];by_cases h1:i<d.size-96*(j+1)
  .rw[dq (by omega),dq (by omega),dq h1]
  rw[dj h1];split
  .split
   .rw[II (by omega)]
   .rfl
  .rfl
 rw[j9 (s:=g7 d (j+1)) (by omega),j9 (s:=(g7 d j).extract k (g7 d j).size) (by rw[mM];omega)]
def fu(T:cS):Nat->List ByteArray->List ByteArray×ByteArray
 |0,_=>([],⟨#[]⟩)
 |f+1,p=>if eO T p then((List.range (du (eK T p).size)).map (eZ (eK T p))++[iC (eK T p)],iC (eK T p))else
  (((dh T p).foldl (λv n=>(v.1++(fu T f (p++[n])).1,v.2++gW (eO T (p++[n])) n (cV (fu T f (p++[n])).2))) ([],(⟨#[]⟩:ByteArray))).1++[((dh T p).foldl (λv n=>(v.1++(fu T f (p++[n])).1,v.2++gW (eO T (p++[n])) n (cV (fu T f (p++[n])).2))) (([]:List ByteArray),(⟨#[]⟩:ByteArray))).2],
   ((dh T p).foldl (λv n=>(v.1++(fu T f (p++[n])).1,v.2++gW (eO T (p++[n])) n (cV (fu T f (p++[n])).2))) (([]:List ByteArray),(⟨#[]⟩:ByteArray))).2)
def Fw(T:cS)(f:Nat)(p:List ByteArray)(v:List ByteArray×ByteArray)(n:ByteArray):List ByteArray×ByteArray:=(v.1++(fu T f (p++[n])).1,v.2++gW (eO T (p++[n])) n (cV (fu T f (p++[n])).2))
def d8(T:cS)(f:Nat)(p:List ByteArray)(l:List ByteArray):List ByteArray×ByteArray:=l.foldl (Fw T f p) ([],⟨#[]⟩)
theorem pB(T:cS)(f:Nat)(p:List ByteArray)(h:eO T p=true):fu T (f+1) p=((List.range (du (eK T p).size)).map (eZ (eK T p))++[iC (eK T p)],iC (eK T p)):=by rw[fu,dq h]
theorem qO(T:cS)(f:Nat)(p:List ByteArray)(h:eO T p=false):fu T (f+1) p=((d8 T f p (dh T p)).1++[(d8 T f p (dh T p)).2],(d8 T f p (dh T p)).2):=by
 rw[fu,dj (by rw[h];simp)];rfl
theorem kD(T:cS)(f:Nat)(p:List ByteArray)(l:List ByteArray)(n:ByteArray):d8 T f p (l++[n])=Fw T f p (d8 T f p l) n:=by simp[d8,A5]
theorem BI(T:cS)(f:Nat)(p:List ByteArray)(l:List ByteArray)(i:Nat)(h:i<l.length):d8 T f p (l.take (i+1))=Fw T f p (d8 T f p (l.take i)) l[i]:=by rw[sN h,kD]
theorem Bd(T:cS)(f:Nat)(p:List ByteArray)(l m:List ByteArray):(d8 T f p l).1.length<=(d8 T f p (l++m)).1.length:=by
 induction m using jh with
 |h0=>rw[CO];exact cO _
 |hs m n ih=>
  rw[<-ve,kD];refine lZ ih ?_;show _<=((d8 T f p (l++m)).1++_).length;rw[ir];omega
theorem qH(T:cS)(has:List Ob):∀(f:Nat)(p:List ByteArray)(ps:im),(dF T has f p ps).2=(fu T f p).2
 |0,_,_=>rfl
 |f+1,p,ps=>by
  cases hf:eO T p
  .rw[fC T has f p ps hf,qO T f p hf]
   have hk:∀l:List ByteArray,(cM T has f p ps l).2=(d8 T f p l).2:=λl=>by
    induction l using jh with
    |h0=>rfl
    |hs l n ih=>
     rw[fe,kD];show(cM T has f p ps l).2++gW _ n (cV (dF T has f (p++[n]) (cM T has f p ps l).1).2)=(d8 T f p l).2++gW _ n (cV (fu T f (p++[n])).2);rw[ih,qH T has f (p++[n])]
   exact hk _
  rw[fD T has f p ps hf,pB T f p hf]
theorem BL(h:eN T)(f:Nat)(p:List ByteArray)(l:List ByteArray):(∀n∈l,(cA T (p++[n])).isSome)->(d8 T f p l).2.size<=50*l.length:=by
 induction l using jh with
 |h0=>intro _;exact fP _
 |hs l n ih=>
  intro hl;have b:=ih (λm hm=>hl m (List.mem_append.2 (.inl hm)));rw[kD];show((d8 T f p l).2++gW _ n (cV _)).size<=_;rw[lY,pD,iB _ rfl,ir,qf];have hn:n.size<=16:=by obtain⟨y,hy⟩:=Option.isSome_iff_exists.1 (hl n sI);obtain⟨h1,h2⟩:=dI hy;have h3:=(h.val y h1).2.2;rw[h2]at h3;exact(io (h3 n sI)).2
  omega
theorem ph(h:st.1.length=st.2.1.length)(c:List ByteArray):(eC st c).1.length=(eC st c).2.1.length/\(eC st c).1.length<=st.1.length+c.length:=by
 induction c using jh with
 |h0=>exact⟨h,cO _⟩
 |hs c t ih=>
  rw[kW];obtain⟨a,b⟩:=Ec ih.1 t;rw[ir,qf];exact⟨a,by have:=ih.2;omega⟩
def pG(w:World)(bw:Nat)(R:Array Value)(H:Nat->Prop)(st:jc)(w':World):Prop:=
 ∃H' tv sv,(∀q,H' q->(H q\/w.heap.size<=q)/\q<w'.heap.size)/\vQ w' bw R H' st tv sv/\cq (λq=>q=bw\/H q) w w'
theorem vQ.tight{a:Value}(h:vQ w bw R H st a sv):vQ w bw R (λq=>H q/\q<w.heap.size) st a sv:=
 ⟨h.row,h.sz,λe=>h.nb e.1,⟨h.txt.1,λq e=>⟨h.txt.2 q e,eP.lt h.txt e⟩⟩,⟨h.sum.1,λq e=>⟨h.sum.2 q e,eP.lt h.sum e⟩⟩,h.ap,h.len⟩
theorem O5.ch{e:Ending}(h:O5 w bw R H st s e w'):e=.returned (.string s)/\pG w bw R H st w':=by
 obtain⟨h1,⟨tv,sv,h2⟩,h3⟩:=h;exact⟨h1,_,tv,sv,λq hq=>⟨hq.1,hq.2⟩,h2.tight,h3⟩
theorem pG.refl{a:Value}(h:vQ w bw R H st a sv):pG w bw R H st w:=⟨_,a,sv,λ_ hq=>⟨.inl hq.1,hq.2⟩,h.tight,cq.refl _ _⟩
theorem pG.below(h:pG w bw R H st w1)(a:Below w1.heap.size w1 w2):pG w bw R H st w2:=by
 obtain⟨H',tv,sv,h1,h2,h3⟩:=h;exact⟨H',tv,sv,λq hq=>⟨(h1 q hq).1,ny (h1 q hq).2 a.size⟩,h2.below a,h3.trans (cq.of_below a)⟩
theorem pG.trans(a:∀q,H1 q->(H q\/w.heap.size<=q)/\q<w1.heap.size)(b:cq (λq=>q=bw\/H q) w w1)(h:pG w1 bw R H1 st2 w2):pG w bw R H st2 w2:=by
 obtain⟨H',tv,sv,g1,g2,g3⟩:=h;have hz:=b.size;refine⟨H',tv,sv,λq hq=>⟨?_,(g1 q hq).2⟩,g2,j7 b g3 (λq hq=>?_)⟩
 .rcases(g1 q hq).1 with e|e
  .exact(a q e).1
  exact .inr oM
 rcases hq with e|e
 .exact .inl (.inl e)
 rcases(a q e).1 with e2|e2
 .exact .inl (.inr e2)
 exact .inr e2
theorem wJ(c:eN T)(d:fp p){r:Int}(h:mD (T.map tk) (dy p) r):(r= -1/\cA T p=none)\/∃(i:Nat)(hi:i<T.length),r=(i:Int)/\cA T p=some T[i]:=by
 rcases h with⟨h1,h2⟩|⟨i,hi,h1,h2⟩
 .refine .inl ⟨h1,?_⟩
  cases hl:cA T p with
  |none=>rfl
  |some x=>
   obtain⟨a,b⟩:=dI hl;exact absurd (by show dy x.names=dy p;rw[b]) (h2 (tk x) (Nu a))
 rw[iF]at hi;refine .inr ⟨i,hi,h1,?_⟩;rw[Aw]at h2;have hm:T[i]∈T:=mX _;have e:=lU (c.val _ hm).2.2 d h2;rw[<-e];exact lT c.dis hm
structure Kw (w:World) (bw:Nat) (R:Array Value) (H:Nat->Prop) (trv:Value) (T:cS):Prop where
 tree:ew w 0 trv (T.map tk)
 r3:R[3]?=some trv
 apb:∀q,trv.ownBlock=some q->q≠bw/\¬H q
 wf:eN T
 k16:mV T
 hl:∀q,H q->q<w.heap.size
 tb:∀V,cq (λq=>q=bw\/H q) w V->fL V
theorem Kw.on(h:Kw w bw R H trv T)(b:cq (λq=>q=bw\/H q) w w')(a:∀q,H' q->(H q\/w.heap.size<=q)/\q<w'.heap.size):Kw w' bw R H' trv T:=by
 refine⟨cI h.tree (λq hq=>b.block q (cr h.tree q hq).2 (λe=>by rcases e with e|e;exact(h.apb q hq).1 e;exact(h.apb q hq).2 e)),h.r3,λq hq=>⟨(h.apb q hq).1,λe=>?_⟩,h.wf,h.k16,λq hq=>(a q hq).2,λV hV=>h.tb V (j7 b hV (λq hq=>?_))⟩
 .have h1:=(cr h.tree q hq).2;rcases(a q e).1 with e2|e2
  .exact(h.apb q hq).2 e2
  .omega
 rcases hq with e|e
 .exact .inl (.inl e)
 rcases(a q e).1 with e2|e2
 .exact .inl (.inr e2)
 exact .inr e2
theorem K3(R:Array Value)(a sv:Value)(b:Bool):(fS R a sv b)[3]?=R[3]?:=by simp[fS]
def tL(bw:Nat)(R:Array Value)(trv:Value)(T:cS)(f:Nat)(p:List ByteArray):Prop:=
 ∀(w:World)(H:Nat->Prop)(st:jc)(tv sv:Value),Kw w bw R H trv T->vQ w bw R H st tv sv->st.1.length+(fu T f p).1.length<=1000000000->
  Calls prog 52 #[yP bw,.string (dy p)] w λe w'=>e=.returned (.string (cV (fu T f p).2))/\pG w bw R H (eC st (fu T f p).1) w'
theorem yf(a:Kw w bw R H trv T)(h:pG w bw R H st w1)(t:ByteArray)(b:t.size<=300000)(c:st.1.length<=1000000000):
  Calls prog 96 #[yP bw,.string t] w1 λe w'=>e=.returned (.string (cV t))/\pG w bw R H (fR st t) w':=by
 obtain⟨H',tv,sv,h1,h2,h3⟩:=h;refine(Ge bw R H' st tv sv t w1 h2 (a.tb w1 h3) b c).mono ?_;intro e w' hr;obtain⟨g1,g2⟩:=hr.ch;exact⟨g1,pG.trans h1 h3 g2⟩
theorem I2(bw:Nat)(R:Array Value)(aF:Value)(T:cS)(f:Nat)(p:List ByteArray)(aD:fp p)(x:pp)(aC:cA T p=some x)(aE:x.dir=false):tL bw R aF T (f+1) p:=by
 intro w H st tv sv hq hI u;have I:eO T p=true:=by unfold eO;rw[aC];show(!x.dir)=true;rw[aE];rfl
 rw[pB T f p I]at u⊢;have F:eK T p=x.data:=by unfold eK;rw[aC]
 rw[F]at u⊢;obtain⟨M,X⟩:=dI aC;have G:p≠[]:=by rw[<-X];exact(hq.wf.val x M).1
 have hd:=hq.wf.big x M;obtain⟨d,L⟩:=eX (x.data);rw[<-L]at u hd⊢;obtain⟨ao,cp,a8⟩:=cQ hq.tree;subst a8;have ak:=hq.wf.len;have c3:w.cell? (yA bw 3)=some (.slice ao (T.map tk).length cp):=by rw[cG hI.row,K3];exact hq.r3
 have HF:Hid (Calls prog 54 #[.slice ao (T.map tk).length cp,.string (dy p)] w λe w'=>∃m g:Nat,e=.returned (.int .i64 m)/\m<T.length/\ao=some (yA g 0)/\w.cell? (yA g (m*3+1))=some (.bool false)/\w.cell? (yA g (m*3+2))=some (.string d)/\w=w'):=by
  refine(o8 0 _ (T.map tk) (dy p) w hq.tree (by rw[iF];omega)).mono ?_;rintro e w' ⟨r,rfl,hr,rfl⟩;rcases wJ hq.wf aD hr with⟨-,h2⟩|⟨i,hi,rfl,h2⟩
  .rw[h2]at aC;cases aC
  obtain⟨g,aq,ab,-,-,hc⟩:=ew.open hq.tree (by rw[iF];omega);obtain⟨-,y1,y2⟩:=hc i (by rw[iF];exact hi);rw[Aw]at y1 y2;rw[h2]at aC;have hx:T[i]=x:=kM aC;refine⟨i,g,rfl,hi,by injection ab,?_,?_,rfl⟩
  .rw[y1];show some (Value.bool T[i].dir)=_;rw[hx,aE]
  rw[y2];show some (Value.string T[i].data)=_;rw[hx,L]
 have a4:=(jx p aD).2 G;obtain⟨s,hs⟩:=eX (dy p);obtain⟨n,hn⟩:=eX ((T.map tk).length);have a6:n=T.length:=by rw[hn,iF]
 rw[<-hn]at c3 HF;rw[<-hs]at HF a4⊢;have aA:(s.toList==[])=false:=by rw[jF];exact lW (by omega)
 have H4:Hid (∀V,Calls prog 95 #[.int .i64 d.size] V λe w'=>e=.returned (.string (fb d.size))/\Below V.heap.size V w'):=λV=>M6 d.size V oM
 have a3:Hid (∀j,j<=du d.size->(eC st ((List.range j).map (eZ d))).1.length<=1000000000):=λj hj=>by have h1:=(ph hI.len ((List.range j).map (eZ d))).2;rw[ir,iF,NS,qf]at u;rw[iF,NS]at h1;show _<=_;omega
 have a5:Hid (∀V E t,pG w bw R H E V->t.size<=300000->E.1.length<=1000000000->Calls prog 96 #[yP bw,.string t] V λe w'=>e=.returned (.string (cV t))/\pG w bw R H (fR E t) w'):=λV E t h1 h2 h3=>yf hq h1 t h2 h3
 have S:Hid (∀V,Below w.heap.size w V->pG w bw R H (eC st ((List.range 0).map (eZ d))) V):=λV hb=>(pG.refl hI).below hb
 have aj:Hid (∀j,eC st ((List.range (j+1)).map (eZ d))=fR (eC st ((List.range j).map (eZ d))) (eZ d j)):=λj=>by show _=_;rw[JO,qA,Cw,kW]
 have ag:Hid (eC st ((List.range (du d.size)).map (eZ d)++[iC d])=fR (eC st ((List.range (du d.size)).map (eZ d))) (iC d)):=kW _ _ _;have P:Hid (g7 d 0=d/\gG d 0=fb d.size):=⟨Cv d,xE d⟩;have az:(d.size:Int)<=1536:=oM;have ax:(n:Int)<=256:=oM;have am:=Hid.mk' a6;have an:=mZ;clear I F M X G L hq hI hs a4 u aC aE aD hn a6 ak;go_enter func52,ntmps52
 go_wp2_with fail
 refine HF.mono ?_;rintro e w1 ⟨m,g,rfl,au,rfl,aa,ac,rfl⟩;have ar:(m:Int)<n:=by have:=am.out;omega
 have ae:(0:Int)<=m:=oM;have aB:decide ((0:Int)<=m)=true:=jX ae;clear HF
 go_wp2_with fail
 refine(H4 w).mono ?_;rintro e w1 ⟨rfl,Q⟩;have ad:=Hid.mk' (S w1 Q);clear Q H4 S c3 aa ac
 go_wp2
 go_loopw [6,7] (λt_ x_ wr=>∃(j:Nat),j<=du d.size/\t_=.string (g7 d j)/\x_=.string (gG d j)/\Hid (pG w bw R H (eC st ((List.range j).map (eZ d))) wr)) (λt_ _ _=>match t_ with| .string t=>t.size|_=>0)
 .exact⟨0,fP _,by rw[P.out.1],by rw[P.out.2],ad⟩
 obtain⟨j,hj,rfl,rfl,HJ⟩:=hrel;have av:j<=16:=by unfold du at hj;omega
 have q:=kF d j;have l:=mz rfl d j;obtain⟨tl,a⟩:=eX (g7 d j);obtain⟨tx,k⟩:=eX (gG d j);rw[<-a]at q;rw[<-k]at l
 try rw[<-a]
 try rw[<-k]
 by_cases C:j<du d.size
 .have U:=(rj d j C).2.2;have W:0<tl.size:=by rw[q];unfold du at C;omega
  have a7:(tl.toList==[])=false:=by rw[jF];exact lW (by omega)
  have hP:=a5 wr _ (eZ d j) HJ oM (a3 j hj);rw[<-aj.out j]at hP;have O:=iB (eZ d j) rfl;have A:(96:Int)<tl.size->tl.extract 0 96=eZ d j:=λ_=>a▸uv d j 96 oM (.inl rfl)
  have z:tl.size<=96->tl.extract 0 tl.size=eZ d j:=λh=>by rw[a]at h⊢;exact uv d j _ h (.inr ⟨rfl,h⟩)
  have D:(96:Int)<tl.size->tl.extract 96 tl.size=g7 d (j+1):=λ_=>a▸ua d j 96 (.inl rfl)
  have B:tl.size<=96->tl.extract tl.size tl.size=g7 d (j+1):=λh=>by rw[a]at h⊢;exact ua d j _ (.inr ⟨rfl,h⟩)
  have K:=kF d (j+1);have v:Hid (gG d (j+1)=tx++cV (eZ d j)):=k▸xR d j;obtain⟨ck,a1⟩:=eX (eZ d j);rw[<-a1]at hP O A z U v;obtain⟨sm,a2⟩:=eX (cV ck);rw[<-a2]at hP O v;obtain⟨ai,o⟩:=eX (g7 d (j+1));rw[<-o]at D B K;have Y:=hD o;have c:=Hid.mk' hP;have ay:(tl.size:Int)<=1536:=oM;have ap:tx.size+sm.size<=9223372036854775807:=oM;have af:Hid (ai.size<tl.size):=by show _<_;omega
  have ah:=hD W;clear hP a1 a2 o a k K O U l q HJ;by_cases Z:(96:Int)<tl.size
  .have a9:=A Z;have N:=D Z;clear A z D B
   go_wp2_with fail
   refine c.mono ?_;rintro e w2 ⟨rfl,b⟩;have HC:=Hid.mk' b;clear b c
   go_wp2
   go_roundw
   .exact⟨j+1,C,by rw[Y.out],by rw[v.out],HC⟩
   exact af
  have J:tl.size<=96:=oM;have a9:=z J;have N:=B J;have al:Hid (ByteArray.empty=g7 d (j+1)):=by rw[<-Y.out,<-N];exact(j9 (by rw[mM];omega)).symm
  clear A z D B N
  go_wp2_with fail
  refine c.mono ?_;rintro e w2 ⟨rfl,b⟩;have HC:=Hid.mk' b;clear b c
  go_wp2
  go_roundw
  .exact⟨j+1,C,by rw[al.out],by rw[v.out],HC⟩
  exact ah
 have y:j=du d.size:=oM;have a0:tl.size=0:=by rw[q,y];unfold du;omega
 have a7:(tl.toList==[])=true:=by rw[jF];exact jX a0
 have hP:=a5 wr _ tx HJ oM (a3 j hj);have e1:tx=iC d:=by rw[k,y];rfl
 have c:Hid (Calls prog 96 #[yP bw,.string tx] wr λe w'=>e=.returned (.string (cV (iC d)))/\pG w bw R H (eC st ((List.range (du d.size)).map (eZ d)++[iC d])) w'):=by rw[ag.out,<-e1,<-y];exact hP
 clear hP a k l q y a0 e1 HJ
 go_wp2_with fail
 refine c.mono ?_;rintro e w2 ⟨rfl,b⟩;have HC:=Hid.mk' b;clear b c
 go_wp2
 go_ret;exact⟨rfl,HC⟩
theorem C5(s n:ByteArray):(s.size≠0->jn s n=s++⟨#[47]⟩++n)/\(s.size=0->jn s n=n):=by
 unfold jn;exact⟨λh=>by rw[dj h];rfl,λh=>by rw[dq h]⟩
theorem Hf(bw:Nat)(R:Array Value)(bG:Value)(T:cS)(f:Nat)(p:List ByteArray)(bD:fp p)(bI:p.length<=8)(bF:p=[]\/∃x,cA T p=some x/\x.dir=true)(bC:eN T)(IH:Hid (∀n∈dh T p,tL bw R bG T f (p++[n]))):tL bw R bG T (f+1) p:=by
 intro w H st tv sv hq hI X
 have a4:eO T p=false:=by
  unfold eO;rcases bF with rfl|⟨x,h1,h2⟩
  .rw[oL bC]
  rw[h1];show(!x.dir)=false;rw[h2];rfl
 rw[qO T f p a4]at X⊢;have bb:=bC.len;obtain⟨ao,cp,b6⟩:=cQ hq.tree;subst b6;obtain⟨n,hn⟩:=eX ((T.map tk).length);have aJ:n=T.length:=by rw[hn,iF]
 rw[<-hn]at hq IH;have HQ:=hD hq;have aF:Hid (∀V H' c D E,vQ V bw R H' c D E->V.cell? (yA bw 3)=some (.slice ao n cp)):=λV H' c D E h=>by rw[cG h.row,K3];exact hq.r3
 have c3:=aF.out w H st tv sv hI
 have aK:Hid (∀V H' (p':List ByteArray),fp p'->Kw V bw R H' (.slice ao n cp) T->Calls prog 54 #[.slice ao n cp,.string (dy p')] V λe w'=>∃r:Int,e=.returned (.int .i64 r)/\V=w'/\((r= -1/\cA T p'=none)\/∃(i g:Nat)(x:pp),r=(i:Int)/\i<n/\cA T p'=some x/\ao=some (yA g 0)/\V.cell? (yA g (i*3+1))=some (.bool x.dir))):=λV H' p' hv hk=>by
  refine(o8 0 _ (T.map tk) (dy p') V hk.tree (by rw[iF];omega)).mono ?_;rintro e w' ⟨r,rfl,hr,rfl⟩;refine⟨r,rfl,rfl,?_⟩;rcases wJ bC hv hr with⟨h1,h2⟩|⟨i,hi,h1,h2⟩
  .exact .inl ⟨h1,h2⟩
  obtain⟨g,br,b5,-,-,hc⟩:=ew.open hk.tree (by rw[iF];omega);obtain⟨-,y1,-⟩:=hc i (by rw[iF];exact hi);rw[Aw]at y1;exact .inr ⟨i,g,T[i],h1,oM,h2,by injection b5,y1⟩
 have F:=hD (LG bw 0 (.slice ao n cp) T p w c3 hq.tree bC bD);have a9:=aK.out w H p bD hq;have a2:(dh T p).length<=16:=by rw[(fh T p).length_eq];exact hq.k16 p
 have Q:Hid (∀n∈dh T p,(cA T (p++[n])).isSome):=λn hn=>(js bC p n).1 hn
 have aX:Hid (∀n∈dh T p,yF n=true/\fp (p++[n])):=λn hn=>by obtain⟨y,hy⟩:=Option.isSome_iff_exists.1 (Q.out n hn);obtain⟨h1,h2⟩:=dI hy;have h3:=(bC.val y h1).2.2;rw[h2]at h3;exact⟨h3 n sI,h3⟩
 obtain⟨L,hL⟩:=eX (dh T p);rw[<-hL]at X F IH a2 Q aX⊢;have am:Hid (∀i,i<=L.length->st.1.length+(d8 T f p (L.take i)).1.length<=1000000000):=λi _=>by have h1:=Bd T f p (L.take i) (L.drop i);rw[Q2]at h1;rw[ir,qf]at X;show _<=_;omega
 have b9:Hid (∀i,(d8 T f p (L.take i)).2.size<=800):=λi=>by
  have h1:=BL bC f p (L.take i) (λn hn=>Q.out n (Pr hn));have:(L.take i).length<=16:=by rw[vx];omega
  show _<=_;omega
 have a1:Hid (∀ts,(eC st ts).1.length<=st.1.length+ts.length):=λts=>(ph hI.len ts).2
 have aO:=vf p bD;have ad:p≠[]->0<(dy p).size:=(jx p bD).2;have aL:Hid (∀n,jn (dy p) n=dy (p++[n])):=λn=>(l9 p n).symm
 have an:p=[]->dy p=⟨#[]⟩:=λh=>by rw[h];rfl
 have G:Hid (d8 T f p (L.take L.length)=d8 T f p L):=by show _=_;rw[NP]
 have bd:Hid (∀V c t,pG w bw R H c V->t.size<=300000->c.1.length<=1000000000->Calls prog 96 #[yP bw,.string t] V λe w'=>e=.returned (.string (cV t))/\pG w bw R H (fR c t) w'):=λV c t h1 h2 h3=>yf hq h1 t h2 h3
 obtain⟨s,hs⟩:=eX (dy p);rw[<-hs]at F a9 aO ad aL an⊢;have bf:s.size<=136:=oM;have bq:(n:Int)<=256:=oM;have bk:=Hid.mk' aJ;have HI:=Hid.mk' hI
 have aW:∀r:Int,((r= -1/\cA T p=none)\/∃(i g:Nat)(x:pp),r=(i:Int)/\i<n/\cA T p=some x/\ao=some (yA g 0)/\w.cell? (yA g (i*3+1))=some (.bool x.dir))->(r= -1/\(s.toList==[])=true)\/∃(i g:Nat),r=(i:Int)/\(i:Int)<n/\ao=some (yA g 0)/\w.cell? (yA g (i*3+1))=some (.bool true)/\(s.toList==[])=false:=λr hr=>by
  rcases bF with hp0|⟨x,h1,h2⟩
  .rcases hr with⟨h3,-⟩|⟨i,g,y,h3,h4,h5,h6,h7⟩
   .exact .inl ⟨h3,by rw[jF];exact jX (by rw[an hp0];rfl)⟩
   rw[hp0,oL bC]at h5;cases h5
  rcases hr with⟨-,h4⟩|⟨i,g,y,h3,h4,h5,h6,h7⟩
  .rw[h4]at h1;cases h1
  rw[h5]at h1;cases h1;refine .inr ⟨i,g,h3,oM,h6,by rw[h7,h2],?_⟩;have av:p≠[]:=by obtain⟨a,b⟩:=dI h5;rw[<-b];exact(bC.val _ a).1
  rw[jF];exact lW (by have:=ad av;omega)
 have aA:=Hid.mk' a9;have aP:=Hid.mk' aW;have bh:=mZ;have aH:Hid ((s.size≠0->∀n,jn s n=s++⟨#[47]⟩++n)/\(s.size=0->∀n,jn s n=n)):=⟨λh n=>(C5 s n).1 h,λh n=>(C5 s n).2 h⟩;clear a4 hq hI hn aJ hs aO ad an a9 aW bF bD hL bb X;go_enter func52,ntmps52
 go_wp2_with fail
 refine aA.out.mono ?_;rintro e w1 ⟨r,rfl,rfl,hr⟩;have aY:=aP.out r hr;clear hr aP aA;rcases aY with⟨rfl,aQ⟩|⟨m,g,rfl,be,rfl,b1,aQ⟩
 rotate_left
 have aN:(0:Int)<=m:=oM;have b4:decide ((0:Int)<=m)=true:=jX aN
 go_wp2_with fail
 refine F.out.mono ?_;clear b1 b4 aN be;generalize (some ((yA g 0):Addr))=ao at*
 rotate_left
 go_wp2_with fail
 refine F.out.mono ?_
 all_goals
  rintro e w1 ⟨kv,rfl,d,B⟩;obtain⟨ko,kc,rfl⟩:=cQ d;obtain⟨kn,P⟩:=eX (L.length);rw[<-P]at d G a2 am;have b2:=hD P;have bj:(kn:Int)<=16:=oM;have bA:=hD d;have aU:=hD (HQ.out.on (cq.of_below B) (λq hq=>⟨.inl hq,ny (HQ.out.hl q hq) B.size⟩));have aM:=hD (pG.refl (HI.out.below B));have ah:Hid (∀c V,pG w1 bw R H c V->pG w bw R H c V):=λc V h=>pG.trans (λq hq=>⟨.inl hq,ny (HQ.out.hl q hq) B.size⟩) (cq.of_below B) h
  have aj:Hid (∀V,cq (λq=>q=bw\/H q) w1 V->V.ownsRow w.heap.size 9 1 (.slice ko kn kc) kn (em L)):=λV hs=>cI d (λq hq=>hs.block q (cr d q hq).2 (λe=>by
   have h1:=(cr d q hq).1;rcases e with e|e
   .have:=cm HI.out.row;omega
   have:=HQ.out.hl q e;omega))
  rw[<-P];clear B d c3 F P bd
  go_wp2
  go_loopw [11,12] (λx_ i_ wr=>∃(i:Nat),i<=kn/\i_=.int .i64 i/\x_=.string (d8 T f p (L.take i)).2/\Hid (pG w1 bw R H (eC st (d8 T f p (L.take i)).1) wr)) (λ_ i_ _=>kn-(intOf i_).toNat)
  .exact⟨0,fP _,rfl,rfl,aM.out⟩
  clear aM;obtain⟨i,hi,rfl,rfl,HJ⟩:=hrel;have M:=b9.out i;by_cases b8:i<kn
  .have W:i<L.length:=by rw[<-b2.out];exact b8
   have al:(i:Int)<kn:=oM;have fR:=BI T f p L i W;have v:L[i]∈L:=mX _;obtain⟨aC,aV⟩:=aX.out _ v;have au:=io aC;obtain⟨H',D,E,g1,g2,g3⟩:=HJ.out;have ac:=aU.out.on g3 g1;have u:=a1.out (d8 T f p (L.take i)).1
   have a0:=IH.out _ v wr H' _ D E ac g2 (by
    have h1:=am.out (i+1) oM;rw[fR]at h1;have e:(Fw T f p (d8 T f p (L.take i)) L[i]).1.length=(d8 T f p (L.take i)).1.length+(fu T f (p++[L[i]])).1.length:=by unfold Fw;rw[ir]
    omega)
   obtain⟨x,hx⟩:=Option.isSome_iff_exists.1 (Q.out _ v);have a7:eO T (p++[L[i]])=!x.dir:=by unfold eO;rw[hx]
   have aB:=iB (fu T f (p++[L[i]])).2 rfl
   have l:Calls prog 52 #[yP bw,.string (dy (p++[L[i]]))] wr λe w'=>e=.returned (.string (cV (fu T f (p++[L[i]])).2))/\∃H2 I J,Kw w' bw R H2 (.slice ao n cp) T/\vQ w' bw R H2 (eC st (d8 T f p (L.take (i+1))).1) I J/\pG w1 bw R H (eC st (d8 T f p (L.take (i+1))).1) w':=by
    refine a0.mono ?_;rintro e w' ⟨rfl,A⟩;have e:eC (eC st (d8 T f p (L.take i)).1) (fu T f (p++[L[i]])).1=eC st (d8 T f p (L.take (i+1))).1:=by rw[fR,<-Bk];rfl
    rw[e]at A;have aq:=pG.trans g1 g3 A;obtain⟨H2,I,J,f1,f2,f3⟩:=A;exact⟨rfl,H2,I,J,ac.on f3 f1,f2,aq⟩
   obtain⟨gk,bg,ar,-,aS,-⟩:=eP.open (S:=λ_=>True) ⟨fq (aj.out wr g3) (fP _),λ_ _=>trivial⟩ oM;have bc:ko=some (yA gk 0):=by injection ar
   subst bc;have ck:wr.cell? (yA gk i)=some (.string L[i]):=by rw[aS i (by rw[iT];exact W)];simp[em]
   have ae:Hid (∀V,cq (λq=>q=bw\/H q) w1 V->V.cell? (yA gk i)=some (.string L[i])/\gk<V.heap.size):=λV hs=>by
    obtain⟨aI,b7,aT,-,az,-⟩:=eP.open (S:=λ_=>True) ⟨fq (aj.out V hs) (fP _),λ_ _=>trivial⟩ oM;have e:aI=gk:=by injection aT with e1;injection e1 with e2;injection e2 with e3;exact e3.symm
    subst e;exact⟨by rw[az i (by rw[iT];exact W)];simp[em],(cr (aj.out V hs) aI rfl).2⟩
   have af:=aL.out L[i];have N:s.size≠0->s++⟨#[47]⟩++L[i]=dy (p++[L[i]]):=λh=>by rw[<-af];exact(aH.out.1 h _).symm
   have U:s.size=0->L[i]=dy (p++[L[i]]):=λh=>by rw[<-af];exact(aH.out.2 h _).symm
   have aa:Hid (∀V H',Kw V bw R H' (.slice ao n cp) T->Calls prog 54 #[(.slice ao n cp),.string (dy (p++[L[i]]))] V λe w'=>∃(j g':Nat),e=.returned (.int .i64 j)/\V=w'/\j<n/\ao=some (yA g' 0)/\V.cell? (yA g' (j*3+1))=some (.bool x.dir)):=λV H' hk=>by
    refine(aK.out V H' (p++[L[i]]) aV hk).mono ?_;rintro e w' ⟨r,rfl,rfl,⟨-,h2⟩|⟨j,g',y,rfl,h2,h3,h4,h5⟩⟩
    .rw[h2]at hx;cases hx
    rw[h3]at hx;cases hx;exact⟨j,g',rfl,rfl,h2,h4,h5⟩
   have Z:d8 T f p (L.take (i+1))=((d8 T f p (L.take i)).1++(fu T f (p++[L[i]])).1,(d8 T f p (L.take i)).2++gW (!x.dir) L[i] (cV (fu T f (p++[L[i]])).2)):=by rw[fR];unfold Fw;rw[a7]
   have k:(d8 T f p (L.take (i+1))).2=(d8 T f p (L.take i)).2++gW (!x.dir) L[i] (cV (fu T f (p++[L[i]])).2):=by rw[Z]
   obtain⟨pj,ay⟩:=eX (dy (p++[L[i]]));rw[<-ay]at l N U aa;obtain⟨tx,o⟩:=eX ((d8 T f p (L.take i)).2);rw[<-o]at k M
   try rw[<-o]
   obtain⟨sm,aE⟩:=eX (cV (fu T f (p++[L[i]])).2);rw[<-aE]at l k aB;obtain⟨nm,Y⟩:=eX (L[i]);rw[<-Y]at ck ae k au N U;obtain⟨xd,aG⟩:=eX (x.dir);rw[<-aG]at aa k;have a5:=Hid.mk' l;have ax:=Hid.mk' k;have a6:IntKind.u8.wrap (nm.size:Int)=(nm.size:Int):=by rw[Iz];omega
   have K:nm.size<=255:=oM;have a3:tx.size+nm.size+sm.size<=1000000:=oM;have bm:s.size+1<=9223372036854775807:=oM;have bs:s.size+1+nm.size<=9223372036854775807:=oM;have z:=aQ;rw[jF]at z
   first|(have ab:=U (FE z);have ab:nm=pj:=ab;subst ab)|have bn:=N (of_decide_eq_false z)
   clear z;clear a0 l fR v aC aV hx ar aS a7 aB Z k o aE Y aG au M W HJ g1 g2 g3 ac u af N U ay
   go_wp2_with fail
   refine a5.out.mono ?_;rintro e w2 ⟨rfl,H2,I,J,k1,k2,k3⟩;have bp:=aF.out w2 H2 _ I J k2;have b3:=Hid.mk' k1;have aR:=Hid.mk' k3;obtain⟨H3,bB,bx,-,-,C⟩:=k3;have aD:=(ae.out w2 C).1;have a8:Hid (gk<w2.heap.size):=(ae.out w2 C).2;clear k1 k2 C ck a5
   go_wp2_with fail
   refine(aa.out w2 H2 b3.out).mono ?_;rintro e w4 ⟨j,g',rfl,rfl,bz,aZ,bu⟩;subst aZ;have bi:(j:Int)<n:=oM;have ba:(0:Int)<=j:=oM;have bo:decide ((0:Int)<=j)=true:=jX ba;cases xd
   .go_upto_region 26 with fail
    refine kQ (C4 _ (λV=>Below w2.heap.size w2 V) gk kn kc i (1:Int) (1:UInt8) tx nm sm (⟨#[(1:UInt8),UInt8.ofNat nm.size]⟩) w2 (dw _ w2).drew (λV O hV=>hV.alloc hV.size _) al (λV hV=>by rw[hV.cell a8.out];exact aD) a6 rfl (by rfl) K a3 (λV hX uB hU=>?_));refine nU hU ?_;have ai:Hid (Below w2.heap.size w2 V):=hX▸((dw w2.heap.size w2).drew.alloc (cO _) _);have ag:Hid (tx++(⟨#[(1:UInt8),UInt8.ofNat nm.size]⟩:ByteArray)++nm++sm=(d8 T f p (L.take (i+1))).2):=by rw[ax.out];unfold gW;rw[LY (by omega),iA,iA,iA];rfl
    clear hX
    go_wp2
    go_roundw
    .exact⟨i+1,oM,by go_num,by rw[ag.out],aR.out.below ai.out⟩
    exact mS
   go_upto_region 26 with fail
   refine kQ (C4 _ (λV=>Below w2.heap.size w2 V) gk kn kc i (2:Int) (2:UInt8) tx nm sm (⟨#[(2:UInt8),UInt8.ofNat nm.size]⟩) w2 (dw _ w2).drew (λV O hV=>hV.alloc hV.size _) al (λV hV=>by rw[hV.cell a8.out];exact aD) a6 rfl (by rfl) K a3 (λV hX uB hU=>?_));refine nU hU ?_;have ai:Hid (Below w2.heap.size w2 V):=hX▸((dw w2.heap.size w2).drew.alloc (cO _) _);have ag:Hid (tx++(⟨#[(2:UInt8),UInt8.ofNat nm.size]⟩:ByteArray)++nm++sm=(d8 T f p (L.take (i+1))).2):=by rw[ax.out];unfold gW;rw[LY (by omega),iA,iA,iA];rfl
   clear hX
   go_wp2
   go_roundw
   .exact⟨i+1,oM,by go_num,by rw[ag.out],aR.out.below ai.out⟩
   exact mS
  have b0:i=kn:=oM;subst b0;obtain⟨H',D,E,g1,g2,g3⟩:=HJ.out;have u:=a1.out (d8 T f p (L.take i)).1;have hP:=yf aU.out HJ.out (d8 T f p (L.take i)).2 oM (by have:=am.out i (cO _);omega);rw[G.out]at hP;rw[G.out];have ak:Hid (Calls prog 96 #[yP bw,.string (d8 T f p L).2] wr λe w'=>e=.returned (.string (cV (d8 T f p L).2))/\pG w bw R H (eC st ((d8 T f p L).1++[(d8 T f p L).2])) w'):=by refine hP.mono ?_;rintro e w' ⟨h1,h2⟩;refine⟨h1,?_⟩;rw[kW];exact ah.out _ _ h2
  have al:¬(i:Int)<i:=oM;obtain⟨tx,o⟩:=eX ((d8 T f p L).2);have ap:=Hid.mk' o;rw[<-o]at ak⊢;clear hP g1 g2 g3 HJ M o u
  go_wp2_with fail
  refine ak.out.mono ?_;rintro e w2 ⟨rfl,A⟩;have HC:=Hid.mk' A;clear A ak
  go_wp2
  go_ret;have hE:=ap.out;subst hE;exact⟨rfl,HC.out⟩
theorem Iv(bw:Nat)(R:Array Value)(a:Value)(T:cS)(b:eN T):∀(f:Nat)(p:List ByteArray),fp p->p.length+f=9->(p=[]\/(cA T p).isSome)->tL bw R a T f p
 |0,p,hval,hl,hlk=>by
  exfalso;rcases hlk with rfl|h
  .simp at hl
  obtain⟨x,hx⟩:=Option.isSome_iff_exists.1 h;obtain⟨h1,h2⟩:=dI hx;have:=(b.val x h1).2.1;rw[h2]at this;omega
 |f+1,p,hval,hl,hlk=>by
  have IH:Hid (∀n∈dh T p,tL bw R a T f (p++[n])):=λn hn=>by have h1:=(js b p n).1 hn;obtain⟨y,hy⟩:=Option.isSome_iff_exists.1 h1;obtain⟨h2,h3⟩:=dI hy;have h4:=(b.val y h2).2.2;rw[h3]at h4;exact Iv bw R a T b f (p++[n]) h4 (by rw[ir,qf];omega) (.inr h1)
  rcases hlk with rfl|h
  .exact Hf bw R a T f [] hval sI (.inl rfl) b IH
  obtain⟨x,hx⟩:=Option.isSome_iff_exists.1 h;cases hd:x.dir
  .exact I2 bw R a T f p hval x hx hd
  exact Hf bw R a T f p hval oM (.inr ⟨x,hx,hd⟩) b IH
end
end Go.Proofs.YtapijhhmjjplmaaGreatDoor

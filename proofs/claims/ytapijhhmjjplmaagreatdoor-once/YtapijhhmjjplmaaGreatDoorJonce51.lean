import Derived.Test.YtapijhhmjjplmaaGreatDoorJonce50
import Derived.Test.YtapijhhmjjplmaaGreatDoorCards
import Derived.Test.YtapijhhmjjplmaaGreatDoorTie
namespace Go.Proofs.YtapijhhmjjplmaaGreatDoor
set_option linter.all false
set_option maxRecDepth 100000
set_option maxHeartbeats 4000000
open Go.Proofs.Tryz
variable {bw i g:Nat}{P:Program}{u:TypeId}{v:Value}{w W:World}
section
open Go.RowKit Go.Maps
def sM(w:World)(bw i:Nat)(W:World):Prop:=
 (w.heap.size<=bw/\Below w.heap.size w W/\W.heap[bw]?=some (.cells (wZ 0 (.pointer none) (.pointer none)) 37 (0,0)))\/
 ∃n S x st M T K d sh ks,eV w W bw n i S x st M T K d sh ks/\mU n M T K d (sh.map (·.T))
def sS(w:World)(bw i:Nat)(W:World):Prop:=∃n S x st M T K d sh ks,eV w W bw n i S x st M T K d sh ks/\mU n M T K d (sh.map (·.T))
theorem sM.below(h:sM w bw i W):Below w.heap.size w W:=by
 rcases h with⟨-,h,-⟩|⟨n,S,x,st,M,T,K,d,sh,ks,h,-⟩
 .exact h
 exact h.below
theorem sM.succ(h:sM w bw i W):sM w bw (i+1) W:=by
 rcases h with h|⟨n,S,x,st,M,T,K,d,sh,ks,h,h2⟩
 .exact .inl h
 exact .inr ⟨n,S,x,st,M,T,K,d,sh,ks,h.up (K0 _),h2⟩
theorem sS.void(h:sS w bw i W):∃vd:Bool,W.cell? (yA bw 10)=some (.bool vd):=by
 obtain⟨n,S,x,st,M,T,K,d,sh,ks,h,-⟩:=h;exact⟨_,h.cells.2.2.2.2.2.2⟩
theorem zR(w:World)(a:Nat->Addr)(b:jm w a)(c:fL w)(W:World)(bw i:Nat)(h:sM w bw i W):
  Calls prog 20 #[yP bw] W λe W'=>e=.returned (.bool true)/\sS w bw i W':=by
 rcases h with⟨h1,h2,h3⟩|h
 .refine(Dy w a b c W bw 0 (by unfold yD;omega) h2 h1 h3).mono ?_;rintro e W' ⟨k,hk,-,rfl,S,x,hm,-⟩;exact⟨rfl,4+k,S,x,_,_,_,_,_,_,_,hm.up (fP _),qL (4+k) oM⟩
 have hh:=h;obtain⟨n,S,x,st,M,T,K,d,sh,ks,h,h2⟩:=h;refine(lp W bw x.bd h.cells.1).mono ?_;rintro e W' ⟨rfl,rfl⟩;exact⟨rfl,hh⟩
theorem Cl(w:World)(a:Nat->Addr)(g:Int)(j:eS w a g)(W:World)(bw i:Nat)(k c:Int)(s t:ByteArray)(l:k≠5)(m:k≠6)(o:k≠8)(f:yD c)(p:i<=70000)(q:s.size<=262144)(r:t.size<=262144)(h:sS w bw i W):
  Calls prog 18 #[yP bw,sV k c s t,.bool false] W λe W'=>e=.returned (.bool true)/\sS w bw (i+1) W':=by
 obtain⟨n,S,x,st,M,T,K,d,sh,ks,h,h2⟩:=h;refine(MM w a g j W bw n i S x st M T K d sh ks k c s t l m o h h2 f p q r).mono ?_;rintro e W' ⟨rfl,S',x',T',K',b,-,r1,r2⟩;exact⟨rfl,n,S',x',st,M,T',K',d,sh,b,r1,r2⟩
theorem Ch(w:World)(a:Nat->Addr)(f:jm w a)(g:fL w)(W:World)(bw i:Nat)(s:ByteArray)(j:i<=70000)(k:s.size<=262144)(h:sS w bw i W):
  Calls prog 21 #[yP bw,.string s] W λe W'=>e=.returned (.bool true)/\sS w bw (i+1) W':=by
 obtain⟨n,S,x,st,M,T,K,d,sh,ks,h,h2⟩:=h;refine(Mr w a f g W bw n i S x st M T K d sh ks s h h2 oM j).mono ?_;rintro e W' ⟨rfl,S',x',b,M',d',c,-,r1,r2⟩;exact⟨rfl,n,S',x',b,M',T,K,d',c,ks,r1,r2⟩
theorem E0{l:List FB}{x:FB}(h:x∈l):x.s.size+x.t.size<=oX l:=by
 induction l with
 |nil=>cases h
 |cons y r ih=>
  have e:oX (y::r)=y.s.size+y.t.size+oX r:=by simp[oX]
  rw[e];rcases List.mem_cons.1 h with rfl|h
  .omega
  .have:=ih h;omega
theorem L2(v:Value)(l:List FB)(w:World)(hs:IP w v l)(a:Nat->Addr)(mx:Int)(Z:eS w a mx)(T0:fL w)(Y:∀V,Below w.heap.size w V->Calls prog 17 #[] V λe w'=>e=.returned (.bool true)/\Below w.heap.size w w'):
  Calls prog 11 #[v] w λe w'=>e=.returned (.bool true)/\Below w.heap.size w w':=by
 have z:=hD (Jc v l w hs);have D:=Hid.mk' Y;have Q:Hid (∀W bw i,sM w bw i W->Calls prog 20 #[yP bw] W λe W'=>e=.returned (.bool true)/\sS w bw i W'):=λW bw i h=>zR w a Z.sent T0 W bw i h
 have S:Hid (∀(W:World)(bw i:Nat)(k oa:Int)(s t:ByteArray),k≠5->k≠6->k≠8->yD oa->i<=70000->s.size<=262144->t.size<=262144->sS w bw i W->Calls prog 18 #[yP bw,sV k oa s t,.bool false] W λe W'=>e=.returned (.bool true)/\sS w bw (i+1) W'):=λW bw i k oa s t h5 h6 h8 h1 h2 h3 h4 h=>Cl w a mx Z W bw i k oa s t h5 h6 h8 h1 h2 h3 h4 h
 have T:Hid (∀(W:World)(bw i:Nat)(s:ByteArray),i<=70000->s.size<=262144->sS w bw i W->Calls prog 21 #[yP bw,.string s] W λe W'=>e=.returned (.bool true)/\sS w bw (i+1) W'):=λW bw i s h1 h2 h=>Ch w a Z.sent T0 W bw i s h1 h2 h
 clear Z T0 Y;have m:Hid (∀V,Below w.heap.size w V->sM w V.heap.size 0 (V.alloc (.cells (wZ 0 (.pointer none) (.pointer none)) 37))):=λV hV=>.inl ⟨hV.size,hV.alloc hV.size _,dM V _⟩
 rcases hs with⟨ao,P,rfl,rfl⟩|⟨bl,off,P,rfl,C,G,f⟩
 .go_enter func11,ntmps11
  go_wp2_with fail
  refine z.mono ?_;rintro e w1 ⟨r,rfl,-,d⟩;have B:=Hid.mk' d;have q:=Hid.mk' (D w1 d);clear d;cases r
  .go_wp2_with fail
   go_ret;exact⟨rfl,B⟩
  go_wp2_with fail
  refine q.mono ?_;rintro e w2 ⟨rfl,o⟩;have HI:=hD (m w2 o);clear o
  go_wp2_with fail
  go_loop [6] (λi=>i=.int .i64 0) (λ_=>0)
  .rfl
  obtain rfl:=hrel
  go_wp2
  go_ret;exact⟨rfl,HI.below⟩
 obtain⟨n,hn⟩:=eX (l.length);have HN:=hD hn;have HC:=hD f
 have L:bl<w.heap.size:=by
  have h0:=(f 0 C).c0;rcases Fc bl w.heap.size with h'|h'
  .exact h'
  simp[World.cell?,Pj h']at h0
 rw[<-hn]at z⊢;clear hn f G C;go_enter func11,ntmps11
 go_wp2_with fail
 refine z.mono ?_;rintro e w1 ⟨r,rfl,A,d⟩;have B:=Hid.mk' d;have q:=Hid.mk' (D w1 d);clear d z D;cases r
 .clear A
  go_wp2_with fail
  go_ret;exact⟨rfl,B⟩
 have A:=A rfl;have X:(n:Int)<=65536:=by have:=HN.out;omega
 have M:Hid (∀y∈l,y.s.size<=262144/\y.t.size<=262144):=λy hy=>by have:=E0 hy;omega
 clear A
 go_wp2_with fail
 refine q.mono ?_;rintro e w2 ⟨rfl,o⟩;have HI:=hD (m w2 o);obtain⟨bw,E⟩:=eX (w2.heap.size);rw[<-E]at HI;clear o m q B
 go_wp2_with fail
 rw[<-E];go_loopw [6] (λN wr=>∃i:Nat,i<=n/\N=.int .i64 i/\Hid (sM w bw i wr)) (λi _=>n-(intOf i).toNat)
 .exact⟨0,oM,rfl,HI⟩
 clear HI E;obtain⟨i,hi,rfl,HI⟩:=hrel;by_cases U:i<n
 .have F:i<l.length:=by have:=HN.out;omega
  obtain⟨x,hx⟩:=eX (l[i]);have u:=HC i F;have j:l[i]∈l:=mX _;rw[<-hx]at u j;have HZ:=Hid.mk' (M x j);obtain⟨kk,oa,ss,tt⟩:=x;have HS:=hD u;have b:=u.on HI.below L;clear hx u j F;have c0:=b.c0;clear b;by_cases h8:kk=8
  .subst h8
   go_wp2
   go_roundw
   .exact⟨i+1,oM,by go_num,HI.succ⟩
   exact mS
  by_cases h6:kk=6
  .subst h6
   go_wp2
   go_roundw
   .exact⟨i+1,oM,by go_num,HI.succ⟩
   exact mS
  have e8:(kk==8)=false:=by rw[tC];exact h8
  have e6:(kk==6)=false:=by rw[tC];exact h6
  have HK:Hid (kk≠6/\kk≠8):=⟨h6,h8⟩;clear h6 h8;have K:=Hid.mk' (Q wr bw i HI)
  go_wp2_with fail
  refine K.mono ?_;rintro e w3 ⟨rfl,J⟩;have g:=Hid.mk' J;clear J HI K;have b:=HS.on (sM.below (.inr g)) L;have d0:=b.c0;have d1:=b.c1;have d2:=b.c2;have d3:=b.c3;clear b c0;by_cases h5:kk=5
  .subst h5;have H:=Hid.mk' (T w3 bw i ss oM HZ.1 g)
   go_wp2_with fail
   refine H.mono ?_;rintro e w4 ⟨rfl,p⟩;have c:=Hid.mk' p;clear p g H;obtain⟨vd,O⟩:=c.void;clear d0 d1 d2 d3;cases vd
   .go_wp2_with fail
    go_roundw
    .exact⟨i+1,oM,by go_num,.inr c⟩
    exact mS
   go_wp2_with fail
   go_ret;exact⟨rfl,sM.below (.inr c)⟩
  have I:=Hid.mk' (S w3 bw i kk oa ss tt h5 HK.1 HK.2 HS.ra oM HZ.1 HZ.2 g);have e5:(kk==5)=false:=by rw[tC];exact h5
  clear h5
  go_wp2_with fail
  refine I.mono ?_;rintro e w4 ⟨rfl,p⟩;have c:=Hid.mk' p;clear p g I;obtain⟨vd,O⟩:=c.void;clear d0 d1 d2 d3;cases vd
  .go_wp2_with fail
   go_roundw
   .exact⟨i+1,oM,by go_num,.inr c⟩
   exact mS
  go_wp2_with fail
  go_ret;exact⟨rfl,sM.below (.inr c)⟩
 .go_wp2
  go_ret;exact⟨rfl,HI.below⟩
end
section
open Go.RowKit Go.Maps
section
variable {w0 W:World} {a:Nat->Addr} {mx:Int} {bw i:Nat} {S:Nat->Nat->Prop} {x:lC} {st:jc} {y:jb}
abbrev A0(w0 W:World)(bw:Nat)(S:Nat->Nat->Prop)(x:lC)(T:cS):Prop:=eV w0 W bw 54 0 S x ([],[],false) (M0 54) T T (d0 54 true) [] []
theorem GL(f:eS w0 a mx)(g:fL w0)(c:Below w0.heap.size w0 W)(d:w0.heap.size<=bw)(h:W.heap[bw]?=some (.cells (wZ 50 (.pointer none) (.pointer none)) 37 (0,0))):
  Calls prog 20 #[yP bw] W λe W'=>e=.returned (.bool true)/\∃S x,A0 w0 W' bw S x []:=by
 refine(Dy w0 a f.sent g W bw 50 (by unfold yD;omega) c d h).mono ?_;rintro e W' ⟨k,hk,b,rfl,S,x,hm,-⟩;have:k=50:=by have:=b dE;exact this
 subst this;exact⟨rfl,S,x,hm⟩
theorem IX(b:eS w0 a mx)(h:A0 w0 W bw S x []):
  Calls prog 18 #[yP bw,sV 2 0 fB dB,.bool true] W λe W'=>e=.returned (.bool true)/\(∃S x,A0 w0 W' bw S x T1)/\mU 54 (M0 54) T1 T1 (d0 54 true) []:=by
 have ho:=qL 54 dE;refine(oH w0 W bw 54 0 S x _ _ [] [] _ _ [] [] 2 0 fB dB true (.inl rfl) h (λV hV=>AZ w0 a mx b V bw 54 0 S x _ _ [] [] _ [] [] 0 fB dB (h.on hV) ho dE dE)).mono ?_;rintro e W' ⟨V,-,rfl,S',x',T',K',hT,-,h1,h2⟩;rw[Ky]at hT;subst hT;have hK:K'=T1:=List.perm_singleton.1 h2.perm;subst hK;exact⟨rfl,⟨S',x',h1⟩,h2⟩
theorem Ku(c:eS w0 a mx)(d:fL w0)(h:A0 w0 W bw S x T1)(f:mU 54 (M0 54) T1 T1 (d0 54 true) []):
  Calls prog 30 #[yP bw,.string xB] W λe W'=>e=.returned (.bool true)/\∃S' x' st' y,y.T=T1/\y.label=xB/\y.root=o4/\AL w0 W' bw 1 S' x' st' [y] []:=by
 refine(Dl w0 a c.sent d W bw 54 0 S x _ _ T1 T1 _ [] [] xB h f dE dE).mono ?_;rintro e W' ⟨rfl,S',x',st',b,-,⟨h1|h1|h1,-⟩|⟨-,-,y,e1,e2,e3,h2⟩⟩
 .rw[b,Mu]at h1;cases h1
 .exact absurd h1 dE
 .exact absurd Ok oM
 rw[Kp,J7]at h2;exact⟨rfl,S',x',st',y,e1,e2,e3.trans JN,h2⟩
theorem J5(q:eS w0 a mx)(r:fL w0)(p:Below w0.heap.size w0 W):
  Calls prog 17 #[] W λe W'=>e=.returned (.bool true)/\Below w0.heap.size w0 W':=by
 obtain⟨W1,b⟩:=eX (W.alloc (.cells (wZ 50 (.pointer none) (.pointer none)) 37));obtain⟨bw,c⟩:=eX (W.heap.size);have hr:W1.heap[bw]?=some (.cells (wZ 50 (.pointer none) (.pointer none)) 37 (0,0)):=by rw[b,c];exact dM W _
 have h:=Hid.mk' (GL q r (by rw[b];exact p.alloc p.size _:Below w0.heap.size w0 W1) (c▸p.size) hr);have l:Hid (∀V S x,A0 w0 V bw S x []->Calls prog 18 #[yP bw,.agg #[.int .i64 2,.int .i64 0,.string ⟨#[102]⟩,.string ⟨#[100,97,116,97]⟩],.bool true] V λe W'=>e=.returned (.bool true)/\(∃S x,A0 w0 W' bw S x T1)/\mU 54 (M0 54) T1 T1 (d0 54 true) []):=λV S x hV=>IX q hV
 have d:Hid (∀V S x,A0 w0 V bw S x T1->mU 54 (M0 54) T1 T1 (d0 54 true) []->Calls prog 30 #[yP bw,.string ⟨#[120]⟩] V λe W'=>e=.returned (.bool true)/\∃S' x' st' y,y.T=T1/\y.label=xB/\y.root=o4/\AL w0 W' bw 1 S' x' st' [y] []):=λV S x hV ho=>Ku q r hV ho
 have m:Hid (∀V S x st y,y.T=T1->y.label=xB->y.root=o4->AL w0 V bw 1 S x st [y] []->Calls prog 19 #[yP bw] V λe W'=>e=.returned (.bool true)/\∃S' x',AL w0 W' bw 1 S' x' st [y] []):=λV S x st y h1 h2 h3 hV=>Js q r h1 h2 h3 hV
 clear q r p hr;go_enter func17,ntmps17;go_upto_region 2 with fail
 rw[<-b,<-c];clear b c
 go_wp2_with fail
 refine h.mono ?_;rintro e W2 ⟨rfl,S2,x2,h2⟩;have j:=Hid.mk' (l W2 S2 x2 h2);clear h2 h l
 go_wp2_with fail
 refine j.mono ?_;rintro e W3 ⟨rfl,⟨S3,x3,h3⟩,ho⟩;have i:=Hid.mk' (d W3 S3 x3 h3 ho);clear h3 ho j d
 go_wp2_with fail
 refine i.mono ?_;rintro e W4 ⟨rfl,S4,x4,o,y,e1,e2,e3,h4⟩;have f:=Hid.mk' (m W4 S4 x4 o y e1 e2 e3 h4);have HY:=Hid.mk' e1;clear h4 e1 e2 e3 i m
 go_wp2_with fail
 refine f.mono ?_;rintro e W5 ⟨rfl,S5,x5,h5⟩;obtain⟨gs,cs,n,g⟩:=Cs h5;obtain⟨k4,k0,-,-⟩:=g W5 h5;obtain⟨yo,yc,k⟩:=cQ (Hn HY W5 h5);rw[k]at k0;have k0:=k0;have HB:=Hid.mk' h5.below;clear h5 n g k f
 go_wp2_with fail
 go_ret;exact⟨rfl,HB⟩
end
theorem Im(v:Value)(l:List FB)(w:World)(d:IP w v l)(a:Nat->Addr)(mx:Int)(b:eS w a mx)(c:fL w):
  Calls prog 11 #[v] w λe w'=>e=.returned (.bool true)/\Below w.heap.size w w':=
 L2 v l w d a mx b c (λ_ hV=>J5 b c hV)
end
section
open Go.ChangeShapes Go.WideShapes Go.ChangeAt Go.WideMaps Go.WideElems Go.RowKit
theorem BV:(mH.filter λx=>x.2.handleName?.isNone)=[("unicode/utf8.acceptRanges",Rows.laid_unicode_utf8_acceptRanges),("keepsake/sums.startWords",Rows.laid_keepsake_sums_startWords),("keepsake/sums.roundWords",Rows.laid_keepsake_sums_roundWords)]++(gK.map K9++[("unicode/utf8.first",Rows.laid_unicode_utf8_first)]):=rfl
theorem xF(h:laidMetH prog mH W):∃a,jm W a:=by
 have hp:=om h;rw[BV]at hp
 have hh:handlesMet prog [("errors.errorType",.iface "internal/reflectlite.rtype" (.agg [.ptr (.lit (.string [101,114,114,111,114]))]))] W:=by
  unfold laidMetH at h;split at h
  .rename_i hf;exact absurd hf (by intro e;cases e)
  rename_i hd tl b;have h2:=h.2;rw[<-b]at h2;exact h2
 refine Ju (λj=>j+3) (λj hj=>⟨by simp;omega,?_⟩) (λi j c=>by show i+3<j+3;omega) hp (Fm hh (List.mem_singleton.2 rfl));rw[Of (by simp),Qg (by simpa using hj)];simp
theorem D2(a:P.underlying u=some (.int .i64))(h:Cell.ok P W .any 0 u v):∃n,v=.int .i64 n:=by
 unfold Cell.ok at h;rw[a]at h
 cases v with
 |int k n=>
  obtain⟨rfl,-⟩:=h;exact⟨n,rfl⟩
 |_=>exact h.elim
theorem yn(h:W.ShapedOpen P){t:TypeId}{z:Array Value}(c:g<P.globals.size)(d:((begin P (λ_ _=>0) default).world.heap[g]?).bind Obj.row?=some (z,t))(hz:z.size=1)(e:P.buildable t=true)(f:P.cellTypes P.depth t=some [t])(i:P.underlying t=some (.int .i64)):∃m,W.cell? (yA g 0)=some (.int .i64 m):=by
 obtain⟨cs,hh,hs,hr⟩:=h.1 g z t c d;obtain⟨ts,b,-,hc⟩:=hr e;obtain rfl:=kM (f.symm.trans b);obtain⟨v,hv⟩:∃v,cs[0]?=some v:=⟨cs[0]'oM,Nt oM⟩;obtain⟨u,a,hk⟩:=hc 0 v hv;obtain rfl:t=u:=kM a;obtain⟨n,rfl⟩:=D2 i hk;exact⟨n,by rw[cG hh];exact hv⟩
theorem Nl:prog.globals.size=18:=kR
theorem OD:((begin prog (λ_ _=>0) default).world.heap[15]?).bind Obj.row?=some (#[.int .i64 0],3):=kR
theorem Pn:prog.buildable 3=true:=kR
theorem Pi:prog.cellTypes prog.depth 3=some [3]:=kR
theorem yr(h:W.ShapedOpen prog):∃m,W.cell? ⟨15,0,none⟩=some (.int .i64 m):=
 yn h (by rw[Nl];decide) OD rfl Pn Pi NK
theorem AY(os:Os)(L:os.Started)(H:Type)(enc:TypeId×Value->H):
  ReturnsInHanded {} Tryz.checked os 11 .any (λw args=>(Rows.onceSpec.pre enc prog Tryz.f11 [] false w args/\laidMetH prog mH w)/\sizedMet enc prog Tryz.f11 (OpenSpec.ofChange Rows.onceSpec) false w args)
   (Rows.onceSpec.post enc prog Tryz.f11 false true false false):=by
 refine returnsInHanded_of_calls (C:=Tryz.checked) own L kR
  (ChangeSpec.witness_shaped (enc:=enc) (C:=Tryz.checked) (os:=os) (X:=λw _=>laidMetH prog mH w) false ((World.doorLaid prog 264 os).layVars prog MB) #[.slice none 0 0] 8 (World.layVars_os _ _ _) (World.shaped_of_ZipB kR kR) kR kR kR (Kf os _)) ?_
 intro w c i _ g _ E v _;obtain⟨_,_,_,I,s,_,_,_,_,f⟩:=E;obtain rfl:Tryz.f11=I:=kM (func11.symm.trans s);obtain⟨⟨⟨ds,gs,A,r,_⟩,G⟩,hz⟩:=v;have hW:=DataW.Whole.of_heap (w':=w.forCall c i) (by rfl) r;have hL:laidMetH prog mH (w.forCall c i):=G.of_heap (by rfl);have D:=hz.weights r;obtain⟨mx,z⟩:=yr g;obtain⟨a,args,o⟩:=i;obtain⟨W,F⟩:=eX (w.forCall c ⟨a,args,o⟩);rw[<-F]at f hW hL z⊢;have y:=hW;obtain⟨p,q,B,hV,rfl,J,K⟩:=hW;have k:=f;have hA:=B;have m:=D;rw[Tryz.params11]at hA k m;obtain⟨v0,d0,rfl,rfl,h0⟩:=trodAll_one hA;obtain⟨rfl,rfl⟩:=trodVars_none hV;have hv:=okWide_slice underlying27 (k 0 27 v0 rfl rfl);have hw:(d0.weights prog 27).all (·<=reachBytes)=true:=List.all_eq_true.2 λn hn=>List.all_eq_true.1 m n (Qf (j:=0) (t:=27) (d:=d0) rfl rfl n hn)
 obtain⟨u,h1⟩:=h0;obtain⟨l,hl⟩:=xU h1 hv hw;obtain⟨sa,S0⟩:=xF hL;refine(Im v0 l W hl sa mx ⟨S0,z⟩ (yB hL)).mono λe W' ⟨he,hb⟩=>?_
 subst he;refine ChangeSpec.post_blind ?_;have e1:Rows.onceSpec.fn H ([d0]++[])={results:=[.lit (.bool true)],args:=[d0]}:=rfl;have ha:DataW.Trod enc prog W' 0 (λb=>decide (b<W.heap.size)) true 27 v0 d0 p:=hb.trod vS kR (FE kR) ⟨u,h1⟩ (λx hx=>y.lt x (P8 _ hx));refine⟨_,_,_,[],p,[],y,?_,?_,?_,hb.frame _,λh=>by cases h⟩
 .rw[e1];exact trodAll_mk1 (shut_bool underlying4 true)
 .rw[e1];exact trodAll_mk1 ha
 rw[e1];rfl
theorem GP:([27].all λu=>!prog.wantsStandIn u)=true:=kR
theorem Cj:Rows.onceRow.wfByText (OpenSpec.ofChange Rows.onceSpec)=true:=kR
theorem ym:false=Rows.onceRow.goesBy Tryz.pinned.checked.prog:=kR
theorem Mq:Tryz.f11.isInstance prog Rows.onceRow.origin Rows.onceRow.targs:=FE kR
theorem Me:Tryz.f11.isWrapper prog Rows.onceRow.wrapper Rows.onceRow.mainSum:=by unfold Func.isWrapper;first|(rw[dq (by decide+kernel)];kernel_rfl)|(rw[dj (by decide+kernel)];exact⟨rfl,rfl⟩)
theorem CE:Rows.OnceSaid:=
 OpenClaim.holds_of_wide 11 Tryz.f11 rfl rfl rfl rfl rfl rfl rfl ⟨rfl,rfl,rfl,rfl,rfl⟩ rfl rfl rfl rfl rfl sr func11 Ia Mq Me
  (λos a H b _=>AY os a H b)
theorem once_card_holds:Rows.OnceCardSaid:=
 Claim7.holds_tied_plain_at .later [] [.data,.handle,.data,.data,.sentinel,.sentinel,.sentinel,.sentinel,.sentinel,.sentinel,.sentinel,.sentinel,.sentinel,.sentinel,.sentinel,.sentinel,.pinned] true (true,"a5bdd69e9582746949c8e84eed0d6134fc226438f06422e11e389a3d5ab4b345") true
  CE (λ_ h=>by cases h) Cj (λ_ h=>by cases h) once_row_tie rfl ⟨rfl,rfl⟩ Ms rfl
  (λf fn hf b=>by
   obtain rfl:f=11:=kM (sr.symm.trans hf)|>.symm;obtain rfl:fn=Tryz.f11:=(kM (func11.symm.trans b)).symm
   exact⟨Je,λj t ht=>by
    rw[Tryz.params11]at ht;have hm:t∈[27]:=by simpa using Array.mem_of_getElem? ht
    have a:=GP
    exact(show prog.wantsStandIn t=false by simpa using List.all_eq_true.1 a t hm)⟩)
  ym
#print axioms once_card_holds
end
end Go.Proofs.YtapijhhmjjplmaaGreatDoor

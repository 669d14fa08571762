import Derived.Test.YtapijhhmjjplmaaGreatDoorJonce43
import Derived.Test.YtapijhhmjjplmaaGreatDoorJonce47
namespace Go.Proofs.YtapijhhmjjplmaaGreatDoor
set_option linter.all false
set_option maxRecDepth 100000
set_option maxHeartbeats 4000000
open Go.Proofs.Tryz
variable {s t:ByteArray}{d:cX}{st:jc}{ok oa:Int}{img l:List ByteArray}{ks:List Int}{M:fm}{at_ seq chain b bw n i gb k:Nat}{S' S3:Nat→Nat→Prop}{T' K:cS}{vw:Value}{V V' w0 W V3:World}
section
open Go.RowKit Go.Maps
theorem G0(n:Nat)(b:Bool):lF (d0 n b):=⟨rfl,rfl,rfl⟩
theorem xS(n:Nat)(b:Bool):df (d0 n b)=lh n b:=rfl
theorem AQ(h:img[at_]?=some z64):jS img at_ seq chain=none:=by
 obtain⟨h1,h2⟩:=List.getElem?_eq_some_iff.1 h;unfold jS;rw[Qt h1];split
 .rename_i h3;rw[dq];refine .inr (.inl ?_);have e:∀(s:ByteArray)(hs:2<s.size),s=z64->s[2].toNat<1:=by intro s hs es;subst es;show(0:UInt8).toNat<1;decide
  exact e _ _ h2
 .rfl
theorem Fq(h:img[M.at_]?=some z64):gQ img M=none:=by
 unfold gQ;rw[AQ h]
theorem xl(n:Nat)(a:4<=n):g6 (df (d0 n true)) (M0 n)=M0 n:=vU (Fq (by rw[xS];exact l6 n true 1 (by decide) (by omega)))
theorem ze(n:Nat)(b:Bool):∀s∈lh n b,s.size=64:=by
 intro s hs;unfold lh at hs;rcases List.mem_cons.1 hs with e|e
 .rw[e];cases b
  .exact qi
  exact mc n
 rw[(List.mem_replicate.1 e).2];exact qi
theorem qL(n:Nat)(b:4<=n):mU n (M0 n) [] [] (d0 n true) []:=by
 have hl:(lh n true).length=n:=oy n true oM;refine⟨?_,eN.nil,mV.nil,List.Perm.refl _,G0 n true,hl,ze n true,λj hj=>?_,λh=>absurd rfl h,rfl,λS hS=>by cases hS⟩
 .have:=(MW.first (img:=lh n true) (n:=n) oM).aw dE;rw[hl]at this;exact this
 have a:1<=j:=hj;by_cases h:j<n
 .exact AB (l6 n true j (by omega) h)
 rw[Dv,II (by show(lh n true).length<=j;omega)];rfl
end
section
def fB:ByteArray:=⟨#[102]⟩
def dB:ByteArray:=⟨#[100,97,116,97]⟩
def xB:ByteArray:=⟨#[120]⟩
def T1:cS:=[⟨[fB],false,dB⟩]
def IB:ByteArray:=⟨#[58,110,176,121,15,57,172,135,201,79,56,86,178,221,44,93,17,14,104,17,96,34,97,169,169,35,211,187,35,173,200,183]⟩
def I7:ByteArray:=⟨#[0,0,0,4,58,110,176,121,15,57,172,135,201,79,56,86,178,221,44,93,17,14,104,17,96,34,97,169,169,35,211,187,35,173,200,183]⟩
def DZ:ByteArray:=⟨#[118,95,136,147,211,246,179,255,249,13,177,112,251,233,114,179,178,215,226,168,135,189,140,238,28,103,192,119,54,215,146,166]⟩
def LJ:ByteArray:=⟨#[1,1,102,118,95,136,147,211,246,179,255,249,13,177,112,251,233,114,179,178,215,226,168,135,189,140,238,28,103,192,119,54,215,146,166]⟩
def o4:ByteArray:=⟨#[222,96,89,63,168,33,112,101,11,175,103,38,203,48,184,189,217,162,177,177,153,41,83,144,46,160,231,94,75,153,55,236]⟩
def iZ:List Ob:=[⟨1,IB,1,dB⟩,⟨2,DZ,2,I7⟩,⟨3,o4,3,LJ⟩]
def M1:fm:=⟨5,5,1637449863,iZ,[⟨xB,o4⟩]⟩
def FV:List ByteArray:=[⟨#[97,114,99,104,105,118,101,49,0,0,0,54,248,217,85,50,0,0,0,0,0,0,0,0,0,0,0,0,0,0,0,0,0,0,0,0,0,0,0,0,0,0,0,0,0,0,0,0,0,0,0,0,0,0,0,0,0,0,0,0,0,0,0,0]⟩,⟨#[0,4,1,0,0,0,1,25,95,163,71,100,97,116,97,0,0,0,0,0,0,0,0,0,0,0,0,0,0,0,0,0,0,0,0,0,0,0,0,0,0,0,0,0,0,0,0,0,0,0,0,0,0,0,0,0,0,0,0,0,0,0,0,0]⟩,⟨#[0,36,2,0,0,0,2,248,245,104,233,0,0,0,4,58,110,176,121,15,57,172,135,201,79,56,86,178,221,44,93,17,14,104,17,96,34,97,169,169,35,211,187,35,173,200,183,0,0,0,0,0,0,0,0,0,0,0,0,0,0,0,0,0]⟩,⟨#[0,35,3,0,0,0,3,180,158,109,141,1,1,102,118,95,136,147,211,246,179,255,249,13,177,112,251,233,114,179,178,215,226,168,135,189,140,238,28,103,192,119,54,215,146,166,0,0,0,0,0,0,0,0,0,0,0,0,0,0,0,0,0,0]⟩,⟨#[0,37,4,0,0,0,4,97,153,128,135,0,0,0,1,222,96,89,63,168,33,112,101,11,175,103,38,203,48,184,189,217,162,177,177,153,41,83,144,46,160,231,94,75,153,55,236,120,0,0,0,0,0,0,0,0,0,0,0,0,0,0,0,0]⟩]++List.replicate 49 z64
def D1:cX:=⟨FV,[],0,false⟩
def NL:gS:=⟨fB,false,DZ⟩
set_option maxRecDepth 1000000
theorem Ky:dz [] (λl=>ia [] l dB) fB=T1:=kR
theorem Mu:(eC ([],[],false) (fu T1 9 []).1).2.2=false:=kR
theorem Ok:(snapF T1 (M0 54) xB).at_<=54:=by decide+kernel
theorem Kp:gz T1 (M0 54) xB=M1:=kR
theorem JN:gN T1 (M0 54)=o4:=kR
theorem J7:(gc T1 (M0 54) xB (d0 54 true)).1=D1:=kR
theorem Bo:g6 (df D1) (M0 54)=M1:=kR
theorem Iu:nP M1.has M1.infos=T1:=kR
theorem MI:∀i,5<=i->i<54->(df D1)[i]?=some z64:=by
 have h:∀i,i<54->5<=i->(df D1)[i]?=some z64:=by decide+kernel
 exact λi h1 h2=>h i h2 h1
theorem L9:D1.safe[0]?=some (iD 54):=kR
theorem LU:gu D1 1 4=dB:=kR
theorem xL:gu D1 2 36=I7:=kR
theorem GR:gu D1 3 35=LJ:=kR
theorem ML:cV dB=IB:=kR
theorem LL:cV I7=DZ:=kR
theorem LV:cV LJ=o4:=kR
theorem IJ:fO LJ=some [NL]:=kR
theorem Dc:jJ I7=some 4:=kR
theorem K4:cJ iZ 1 IB=(1,4):=kR
theorem AG:cJ iZ 2 DZ=(2,36):=kR
theorem Ix:cJ iZ 3 o4=(3,35):=kR
theorem Ng:iz I7 0=IB:=kR
theorem OX:qx T1 fB=0:=kR
theorem Mj:getD T1 fB=dB:=kR
theorem CW:vN T1 []=0:=kR
theorem MZ:sy T1 []=[(fB,false,4)]:=kR
theorem Mi:cZ fB=some [fB]:=kR
theorem xI:cZ ⟨#[]⟩=some []:=kR
end
section
open Go.RowKit Go.Maps
@[reducible] def sV (k a:Int) (s t:ByteArray):Value:=.agg #[.int .i64 k,.int .i64 a,.string s,.string t]
@[reducible] def pZ (k a:Int) (s t:ByteArray):Array Value:=#[.int .i64 k,.int .i64 a,.string s,.string t]
structure Ed (V:World) (bw:Nat) (S:Nat->Nat->Prop) (b:Nat) (k a:Int) (s t:ByteArray):Prop where
 row:V.heap[b]?=some (.cells (pZ k a s t) 40 (0,0))
 nb:b≠bw
 ns:∀j,¬S j b
theorem Ed.cells{bw:Nat}{S:Nat->Nat->Prop}{k a:Int}(h:Ed V bw S b k a s t):V.cell? (yA b 0)=some (.int .i64 k)/\V.cell? (yA b 2)=some (.string s)/\V.cell? (yA b 3)=some (.string t):=
 ⟨cG h.row,cG h.row,cG h.row⟩
theorem Ed.on{bw:Nat}{S:Nat->Nat->Prop}{k a:Int}(h:Ed V bw S b k a s t)(c:mG V bw S V' S'):Ed V' bw S' b k a s t:=by
 have hl:=cm h.row;refine⟨?_,h.nb,λj hj=>?_⟩
 .rw[c.same.block b hl (λe=>?_)]
  .exact h.row
  rcases e with e|⟨j,e⟩
  .exact h.nb e
  exact h.ns j e
 rcases c.new j b hj with⟨j2,e⟩|e
 .exact h.ns j2 e
 .omega
def NR(w0:World)(bw n i:Nat)(V:World)(S:Nat->Nat->Prop)(x:lC)(st:jc)(M:fm)(T' K:cS)(d:cX)(sh:List jb)(ks:List Int)(c:Nat)(e:Ending)(V':World):Prop:=
 e=.returned (.int .i64 c)/\∃S',eV w0 V' bw n i S' x st M T' K d sh ks/\mG V bw S V' S'
section
variable {w0 W:World} {a:Nat->Addr} {mx:Int} {bw n i:Nat} {S:Nat->Nat->Prop} {x:lC} {st:jc} {M:fm} {T K:cS} {d:cX} {sh:List jb} {ks:List Int}
theorem eV.put(c:eS w0 a mx)(h:eV w0 W bw n i S x st M T K d sh ks)(f:eN T)(s t:ByteArray)(j:s.size<=262144)(k:t.size<=262144):
  Calls prog 49 #[yP x.ba,.string s,.string t] W λe V'=>NR w0 bw n i W S x st M (dz T (λl=>ia T l t) s) K d sh ks (da (λl=>iG T l t) s) e V':=by
 refine(Ph w0 a mx s t c h.arc f h.below (λg hg=>(h.fam.hi 1 g hg).1) (λg hg=>(h.fam.hi 1 g hg).2.1) j k).mono ?_;rintro e V' ⟨rfl,h2,h3⟩;exact⟨rfl,h.arcT h2 h3⟩
theorem eV.mkdir(c:eS w0 a mx)(h:eV w0 W bw n i S x st M T K d sh ks)(f:eN T)(s:ByteArray)(j:s.size<=262144):
  Calls prog 27 #[yP x.ba,.string s] W λe V'=>NR w0 bw n i W S x st M (dz T (ff T) s) K d sh ks (da (eY T) s) e V':=by
 refine(I1 w0 a mx s c h.arc f h.below (λg hg=>(h.fam.hi 1 g hg).1) (λg hg=>(h.fam.hi 1 g hg).2.1) j).mono ?_;rintro e V' ⟨rfl,h2,h3⟩;exact⟨rfl,h.arcT h2 h3⟩
theorem eV.remove(c:eS w0 a mx)(h:eV w0 W bw n i S x st M T K d sh ks)(f:eN T)(s:ByteArray)(j:s.size<=262144):
  Calls prog 56 #[yP x.ba,.string s] W λe V'=>NR w0 bw n i W S x st M (dz T (d9 T) s) K d sh ks (da (dV T) s) e V':=by
 refine(FX w0 a mx s c h.arc f h.below (λg hg=>(h.fam.hi 1 g hg).1) j).mono ?_;rintro e V' ⟨rfl,h2,h3⟩;exact⟨rfl,h.arcT h2 h3⟩
end
end
section
open Go.RowKit Go.Maps
structure Qp (V3:World) (L:List xG) (s t:ByteArray) (V:World) (vw:Value) (gb:Nat):Prop where
 below:Below V3.heap.size V3 V
 own:ew V V3.heap.size vw L
 row:V.heap[gb]?=some (.cells #[.string s,.bool false,.string t] 109 (0,0))
structure QI (w0 W:World) (bw n i:Nat) (S:Nat->Nat->Prop) (st:jc) (M:fm) (Tn:cS) (d:cX) (sh:List jb) (ks:List Int) (V:World) (g m c:Nat):Prop where
 tree:V.cell? (yA bw 3)=some (.slice (yS g 0) m c)
 last:∃q,m=q+1/\q<=256/\V.cell? (yA g (q*3+1))=some (.bool false)
 all:∀V',Below V.heap.size V V'->DD w0 W bw n i S st M Tn d sh ks (.returned (.bool true)) V'
theorem F4{S:Nat->Nat->Prop}{x:lC}{J:List jb}(h:eV w0 V3 bw n i S3 x st M T' K d J ks)(N:mG W bw S V3 S3)(H:Ed V3 bw S3 b ok oa s t)(O:mU n M T' (dS K l++[(⟨l,false,t⟩:pp)]) d (J.map (·.T)))(Q:dy l=s)(L:(dS K l).length<=256)(I:Qp V3 ((dS K l).map tk) s t V vw gb):
  ∃g' m' c' w',(Builtin.append_ #[32,32] 32 #[vw,.slice (yS gb 0) 1 1]).run prog V=.ok (.slice (yS g' 0) m' c') w'/\(w'.cell? (yA b 2)=some (.string s)/\w'.cell? (yA b 3)=some (.string t))/\w'.cell? (yA bw 3)=some x.trv/\w'.frozen? (yA bw 3)=false/\((w'.setCell (yA bw 3) (.slice (yS g' 0) m' c')).cell? (yA b 2)=some (.string s)/\(w'.setCell (yA bw 3) (.slice (yS g' 0) m' c')).cell? (yA b 3)=some (.string t))/\QI w0 W bw n i S st M T' d J ks (w'.setCell (yA bw 3) (.slice (yS g' 0) m' c')) g' m' c':=by
 obtain⟨i0,D,z,A,y⟩:=Ba oG;have G:((dS K l).map tk).length<=256:=by rw[iF];exact L
 obtain⟨v',w',r1,r2,r3,-,-⟩:=Jl (P:=prog) V V3.heap.size 32 32 109 i0 (.agg #[.string ⟨#[]⟩,.bool false,.string ⟨#[]⟩]) 3 40 NV D z A y rfl dE vw _ _ I.own (yA gb 0) 1 1 [.string s,.bool false,.string t] rfl (λk u hk=>by
   have e1:((yA gb 0):Addr).add k=(yA gb k):=by unfold Addr.add;split<;>simp_all
   rw[e1,cG I.row]
   simpa using hk) (by intro u hu;simp at hu;rcases hu with rfl|rfl|rfl<;>rfl) (by unfold maxLen;omega) oM I.below.size
 have f:=I.below.grown r3 I.below.size (λq hq=>(cr I.own q hq).1);have a:ew w' V3.heap.size v' ((dS K l++[(⟨l,false,t⟩:pp)]).map tk):=by rw[qA,Cw];show w'.ownsRow V3.heap.size _ 3 _ ((dS K l).map tk++[(dy l,false,t)]).length (gM ((dS K l).map tk++[(dy l,false,t)]));rw[pi,ir,qf,Q];exact r2
 obtain⟨q1,S6,q2,q3⟩:=h.turn (K':=dS K l++[(⟨l,false,t⟩:pp)]) (v:=v') (W9:=w') (C:=V3.heap.size) (cq.of_below f) a (λq hq=>.inr (cr a q hq).1);have p:=H.cells;have r:=cm H.row;have w:(dS K l).length<((dS K l++[(⟨l,false,t⟩:pp)]).map tk).length:=by rw[iF,ir,qf];omega
 obtain⟨g',c',g,-,-,B⟩:=ew.open a oM;obtain⟨m',o⟩:∃m,m=((dS K l++[(⟨l,false,t⟩:pp)]).map tk).length:=⟨_,rfl⟩;have F:m'=(dS K l).length+1:=by rw[o,iF,ir,qf]
 have hx:=(B (dS K l).length w).2.1;have hd:((dS K l++[(⟨l,false,t⟩:pp)]).map tk)[(dS K l).length].2.1=false:=by rw[Aw,Of (cO _)];simp[tk]
 rw[hd]at hx;rw[<-o]at g;rw[g]at r1 q2 q3;have c:=(H.on q3).cells;have E:g'≠bw:=by have:=(cr a g' (by rw[g];rfl)).1;have:=h.bwl;omega
 refine⟨g',m',c',w',r1,⟨by rw[f.cell r];exact p.2.1,by rw[f.cell r];exact p.2.2⟩,by rw[cG q1];rfl,fH w' bw 3 _ _ q1,⟨c.2.1,c.2.2⟩,q2.cells.2.2.1,⟨(dS K l).length,F,L,?_⟩,λV' j=>⟨rfl,S6,_,T',_,rfl,(N.trans q3).trans (.below j),q2.on j,O⟩⟩;exact((cq.refl (·=bw) w').setCell (yA bw 3) rfl _).cell (λe=>E e) hx
theorem AZ(w0:World)(a:Nat->Addr)(mx:Int)(V0:eS w0 a mx)(W:World)(bw n i:Nat)(S:Nat->Nat->Prop)(x:lC)(st:jc)(M:fm)(T K:cS)(d:cX)(sh:List jb)(ks:List Int)(oa:Int)(s t:ByteArray)(h:eV w0 W bw n i S x st M T K d sh ks)(ho:mU n M T K d (sh.map (·.T)))(hs:s.size<=262144)(ht:t.size<=262144):
  Calls prog 31 #[yP bw,sV 2 oa s t] W λe W'=>DD w0 W bw n i S st M (dz T (λl=>ia T l t) s) d sh ks e W':=by
 obtain⟨W1,N⟩:=eX (W.alloc (.cells (pZ 2 oa s t) 40));have Y:Below W.heap.size W W1:=by rw[N];exact(dw _ _).alloc (cO _) _
 obtain⟨b,hb⟩:=eX (W.heap.size);have Z:Ed W1 bw S b 2 oa s t:=by refine⟨by rw[N,hb];exact dM _ _,by have:=h.bwl;omega,λj hj=>by have:=(h.fam.hi j b hj).2.1;omega⟩
 have a7:=eN.perm ho.wf ho.perm.symm;obtain⟨kn,p⟩:=eX ((K.map tk).length);have ax:kn<=256:=by rw[p,iF];exact a7.len
 obtain⟨tp,tc,E⟩:=cQ h.tree.1;rw[<-p]at E;have h1:=h.on Y;have am:=Hid.mk' h1;have a9:Hid (mG W bw S W1 S):=.below Y;have U:=Hid.mk' Z;have g:=Hid.mk' ho;have C:=Hid.mk' E;have af:=Hid.mk' p;have ac:Hid (Calls prog 54 #[.slice tp kn tc,.string s] W1.drew λe w'=>∃r,e=.returned (.int .i64 r)/\mD (K.map tk) s r/\W1.drew=w'):=by rw[<-E];exact o8 0 _ _ s W1.drew (cI h1.tree.1 (λq hq=>rfl)) (by rw[<-p];omega)
 have a1:Hid (∀V,Below W1.heap.size W1 V->Calls prog 49 #[yP x.ba,.string s,.string t] V λe V'=>NR w0 bw n i V S x st M (dz T (λl=>ia T l t) s) K d sh ks (da (λl=>iG T l t) s) e V'):=λV hV=>(h1.on hV).put V0 ho.wf s t hs ht
 obtain⟨c0,c2,c3⟩:=Z.cells;have d3:W1.cell? (yA bw 3)=some (.slice tp kn tc):=by rw[<-E];exact h1.cells.2.2.1
 have d2:=h1.cells.2.1;obtain⟨i0,a5,ae,a8,ak⟩:=Ba oG;have P:Hid (prog.info? 109=some i0/\i0.zero=some (.agg #[.string ⟨#[]⟩,.bool false,.string ⟨#[]⟩])/\i0.size=3/\i0.bytes=40):=⟨a5,ae,a8,ak⟩;clear h h1 ho hs ht Z a7 p E Y V0 a5 ae a8 ak;go_enter func31,ntmps31
 go_wp2_with fail
 rw[<-N,<-hb];clear N hb
 go_region_held3 (λw'=>w'.cell? (yA bw 3)=some (.slice tp kn tc)/\w'.cell? (yA b 2)=some (.string s)) (((repeat' constructor)<;>first|assumption|(rw[nZ];assumption))) (first|(go_at_call 54;refine ac.mono ?_;rintro e V2 ⟨r,rfl,hr,rfl⟩;have HR:=Hid.mk' hr;clear hr))
 clear ac
 go_wp2_with fail
 have F:=Hid.mk' (a1 W1.drew.drew (((dw _ _).drew).drew));have aa:=Hid.mk' (a9.trans (.below (bw:=bw) (S:=S) (((dw W1.heap.size W1).drew).drew)));have B:=Hid.mk' (U.on (.below (((dw W1.heap.size W1).drew).drew)));obtain⟨c,hc⟩:=eX (da (λl=>iG T l t) s);obtain⟨T',a0⟩:=eX (dz T (λl=>ia T l t) s);rw[<-hc,<-a0]at F;have HC:=Hid.mk' hc;have z:=Hid.mk' a0;clear hc a0 a1
 go_region_held3 (λw'=>w'.cell? (yA bw 2)=some (yP x.ba)/\w'.cell? (yA b 2)=some (.string s)/\w'.cell? (yA b 3)=some (.string t)) (((repeat' constructor)<;>first|assumption|(rw[nZ];assumption)|(rw[nZ,nZ];assumption))) (first|(go_at_call 49;refine F.mono ?_;rintro e V3 ⟨rfl,S3,h3,G⟩;have m:=Hid.mk' h3;have D:=Hid.mk' (aa.trans G);have k:=Hid.mk' (B.on G);have b2:=(B.on G).cells.2.1;have b3:=(B.on G).cells.2.2;have w2:=h3.cells.2.1;have w3:V3.cell? (yA bw 3)=some (.slice tp kn tc):=(by rw[<-C.out];exact h3.cells.2.2.1);clear h3 G))
 clear F aa B am a9 U d2 d3 c0 c2 c3;by_cases L:c=0
 .obtain⟨l,hj,hv,H⟩:=Gh g.wf g.perm (by rw[<-HC.out];exact L) HR;have J:Hid (eN T'/\mV T'):=⟨by rw[z.out];exact Dr g.wf s t,by rw[z.out];exact MV g.k16 (λl=>g.k16.put l t) s⟩;rw[<-z.out]at H;subst L;rcases H with⟨rfl,hp⟩|⟨j,rfl,Q,hp⟩
  .have o:=Hid.mk' (g.turn J.1 J.2 hp);have aq:Hid (V3.ownsRow 0 109 3 (.slice tp kn tc) kn (gM (K.map tk))):=by rw[<-C.out,af.out];exact m.tree.1
   have ab:Hid (∀g9 v W9,W9.ownsRow 0 109 3 (.slice (yS g9 0) (kn+1) v) (kn+1) (gM (K.map tk)++[.string s,.bool false,.string t])->(V3.alloc (.cells #[.string s,.bool false,.string t] 109)).drew.grownBy W9 (Value.ownBlock (.slice tp kn tc))->(Value.ownBlock (.slice tp kn tc)=some g9\/g9=V3.heap.size+1)->W9.cell? (yA bw 3)=some (.slice tp kn tc)/\W9.frozen? (yA bw 3)=false/\∀W6,W6=W9.setCell (yA bw 3) (.slice (yS g9 0) (kn+1) v)->DD w0 W bw n i S st M (dz T (λl=>ia T l t) s) d sh ks (.returned (.bool true)) W6):=by intro g9 v W9 q1 q2 q3;have p:=af;rw[<-C.out]at q2 q3;rw[p,<-hj]at q1;obtain⟨r1,S6,r2,r3⟩:=m.item (y:=⟨l,false,t⟩) q1 (⟨q2.os,q2.tape,q2.output,q2.size,q2.block⟩:(V3.alloc (.cells #[.string s,.bool false,.string t] 109)).grownBy W9 x.trv.ownBlock) q3;rw[<-p]at r2 r3;refine⟨by rw[cG r1,<-C.out];rfl,fH W9 bw 3 _ _ r1,λW6 ar=>?_⟩;rw[<-ar]at r2 r3;exact⟨rfl,S6,_,T',_,z,D.trans r3,r2,o⟩
   have aE:(V3.alloc (.cells #[.string s,.bool false,.string t] 109)).cell? (yA bw 3)=some (.slice tp kn tc):=by rw[vY _ _ _ (by rw[w3];rfl)];exact w3
   have aD:(kn:Int)<=256:=oM;clear hp hv hj m D k o w2
   go_wp2_with fail
   go_region_law (first|(refine O8 _ rfl _ _ 32 rfl 0 109 i0 (.agg #[.string ⟨#[]⟩,.bool false,.string ⟨#[]⟩]) 3 40 NV P.1 P.2.1 P.2.2.1 P.2.2.2 rfl dE (.slice tp kn tc) kn (gM (K.map tk)) rfl (rI (w:=V3) aq _) (yA V3.heap.size 0) 1 1 [.string s,.bool false,.string t] rfl rfl (λj u hj=>ip V3 _ _ _ _ j u hj) (by intro u hu;simp at hu;rcases hu with rfl|rfl|rfl<;>rfl) dE (by unfold maxLen;omega) oM oM (V3.heap.size+1) sI ?_;intro g9 v W9 X I a2 an;have A:=ab g9 v W9 X I a2;have k3:=A.1;have f3:=A.2.1;have HG:=Hid.mk' (A.2.2 _ rfl);clear A X I a2 an))
   all_goals
    go_wp2
    go_ret;exact HG
  have hK:=eN.perm g.wf g.perm.symm;have o:=Hid.mk' (g.turn J.1 J.2 hp);have ap:Hid ((dS K l).length<=256):=lZ (KI _ _) hK.len;have ai:Hid (∀V vw gb,Qp V3 ((dS K l).map tk) s t V vw gb->∃g' m' c' w',(Builtin.append_ #[32,32] 32 #[vw,.slice (yS gb 0) 1 1]).run prog V=.ok (.slice (yS g' 0) m' c') w'/\(w'.cell? (yA b 2)=some (.string s)/\w'.cell? (yA b 3)=some (.string t))/\w'.cell? (yA bw 3)=some (.slice tp kn tc)/\w'.frozen? (yA bw 3)=false/\((w'.setCell (yA bw 3) (.slice (yS g' 0) m' c')).cell? (yA b 2)=some (.string s)/\(w'.setCell (yA bw 3) (.slice (yS g' 0) m' c')).cell? (yA b 3)=some (.string t))/\QI w0 W bw n i S st M T' d sh ks (w'.setCell (yA bw 3) (.slice (yS g' 0) m' c')) g' m' c'):=λV vw gb hP=>by rw[<-C.out];exact F4 m D k o hj ap hP
  have al:Hid (∀V,Below V3.heap.size V3 V->Calls prog 55 #[.slice tp kn tc,.int .i64 j] V λe w'=>∃vw,e=.returned vw/\(w'.cell? (yA b 2)=some (.string s)/\w'.cell? (yA b 3)=some (.string t))/\(ew w' V.heap.size vw ((dS K l).map tk)/\Below V.heap.size V w')):=λV hV=>by rw[<-C.out];have aj:=k.cells;have a4:=cm k.row;refine(xh 0 x.trv (K.map tk) j s V (cI m.tree.1 (λq hq=>hV.block q (cr m.tree.1 q hq).2)) (by rw[iF];have:=hK.len;omega) Q).mono ?_;rintro e V4 ⟨v',rfl,a3,a6⟩;rw[C7 hK hj hv]at a3;have ah:=hV.trans (a6.mono hV.size);exact⟨v',rfl,⟨by rw[ah.cell a4];exact aj.2.1,by rw[ah.cell a4];exact aj.2.2⟩,a3,a6⟩
  have aC:decide ((0:Int)<=(j:Int))=true:=jX oM;clear hp hj hv Q m D k o w2 hK
  go_wp2_with fail
  refine kQ (LD _ (λV=>V.cell? (yA b 2)=some (.string s)/\V.cell? (yA b 3)=some (.string t)) (λV w' vw=>ew w' V.heap.size vw ((dS K l).map tk)/\Below V.heap.size V w') (Qp V3 ((dS K l).map tk) s t) (QI w0 W bw n i S st M T' d sh ks) b bw j kn tc tp s t V3 ⟨b2,b3⟩ (λV O hV=>⟨by rw[vY _ _ _ (by rw[hV.1];rfl)];exact hV.1,by rw[vY _ _ _ (by rw[hV.2];rfl)];exact hV.2⟩) (λV hV=>hV) (λV hV=>by
    rcases hV with rfl|rfl
    .exact w3
    .rw[vY _ _ _ (by rw[nZ,w3];rfl)];exact w3) (λV hV=>al V (by
    rcases hV with rfl|rfl
    .exact(dw _ _).drew
    .exact((dw V3.heap.size V3).drew).alloc (cO _) _)) (λw' vw hw=>⟨(((dw V3.heap.size V3).drew).trans hw.2).alloc hw.2.size _,rI (w:=w') hw.1 _,dM w' _⟩) (λw' vw hw=>⟨(((dw V3.heap.size V3).drew).alloc (cO _) _).trans (hw.2.mono sI),fq hw.1 sI,by
    rw[hw.2.block V3.heap.size (by simp)]
    exact dM V3.drew _⟩) ai (λV g' m' c' hX uB hU=>?_))
  refine nU hU ?_;obtain⟨ay,⟨q,ad,av,aF⟩,ag⟩:=hX;subst ad;have ao:=Hid.mk' ag;have aB:(q:Int)<=256:=oM;have aA:IntKind.i64.wrap (q:Int)=(q:Int):=by rw[pH];omega
  have ad:(q:Int)<(q:Int)+1:=oM;clear ag ai al;go_upto_region 7 with fail
  go_quiet (fail)
  go_wp2
  go_ret;rw[<-z.out];exact ao _ (cR (dw _ _) _)
 have au:Hid (T'=T):=by show _=_;rw[z.out];exact uZ (f:=λl=>iG T l t) (by rw[<-HC.out];exact L) (λl hl=>by unfold ia;rw[dq hl])
 have HG:Hid (DD w0 W bw n i S st M (dz T (λl=>ia T l t) s) d sh ks (.returned (.bool true)) V3):=⟨rfl,S3,x,T',K,z,D,m,by rw[au.out];exact g⟩;have az:((c:Int)==0)=false:=by rw[tC];omega
 clear L m D k b2 b3 w2 w3
 go_wp2
 go_ret;exact HG
end
section
open Go.RowKit Go.Maps
section
variable {w0 W W':World} {bw n i:Nat} {S:Nat->Nat->Prop} {x:lC} {st:jc} {M:fm} {T K:cS} {d:cX} {sh:List jb} {ks:List Int}
theorem eV.arcW(h:eV w0 W bw n i S x st M T K d sh ks):ed W (S 2) x.bd 0 x.ba x.N x.a0 x.a1 x.a2 x.a3 d M.has:=by
 have off:∀q,S 1 q->¬S 2 q:=λq h1 h2=>absurd (h.fam.ap 1 2 q h1 h2) dE
 obtain⟨t,-,hr⟩:=h.arc.tab.row;exact⟨h.dsk,⟨_,hr,rfl,rfl,rfl,rfl,rfl⟩,h.arc.kn.mono (λ_ _=>trivial),off _ h.arc.sb,off _ h.arc.kn.s.1,off _ h.arc.kn.s.2.1,off _ h.arc.kn.s.2.2.1,off _ h.arc.kn.s.2.2.2⟩
theorem eV.envR(b:fL w0)(h:eV w0 W bw n i S x st M T K d sh ks):iY W (S 2):=λV hV=>h.tabs b hV (λq hq=>(h.fam.hi 2 q hq).1)
end
abbrev AL(w0 W:World)(bw i:Nat)(S:Nat->Nat->Prop)(x:lC)(st:jc)(sh:List jb)(ks:List Int):Prop:=eV w0 W bw 54 i S x st M1 T1 T1 D1 sh ks
def X1(j:Nat):gS:=if j=0 then⟨⟨#[]⟩,true,o4⟩else NL
set_option maxRecDepth 1000000 in
theorem Ha:mF D1 iZ DZ=dB:=kR
theorem Oj:eN T1:=by rw[<-Ky];exact Dr (qL 54 dE).wf fB dB
set_option maxRecDepth 1000000 in
theorem uz:D1.safe.length=54:=kR
theorem Dh:jf D1 (cJ iZ 1 IB).1 (cJ iZ 1 IB).2 IB:=by
 rw[K4];exact⟨by rw[uz];decide,LU▸ML⟩
theorem xy:jf D1 (cJ iZ 2 DZ).1 (cJ iZ 2 DZ).2 DZ:=by
 rw[AG];exact⟨by rw[uz];decide,xL▸LL⟩
theorem tj:jf D1 (cJ iZ 3 o4).1 (cJ iZ 3 o4).2 o4:=by
 rw[Ix];exact⟨by rw[uz];decide,GR▸LV⟩
theorem Oo:uJ D1 iZ DZ:=by
 refine⟨xy,4,?_,λj hj=>?_⟩
 .rw[AG];show jJ (gu D1 2 36)=_;rw[xL,Dc]
 obtain rfl:j=0:=by unfold du at hj;omega
 rw[AG];show jf D1 _ _ _;rw[show gu D1 (2,36).1 (2,36).2=I7 from xL,Ng];exact Dh
theorem Oz{o:Ob}(h:cF iZ k s=some o):o∈iZ/\o.kind=k/\o.sum=s:=by
 have h1:=OV h;have h2:=N9 h;simp only[Dj,P2]at h2;exact⟨h1,h2⟩
theorem xk{o:Ob}(h:o∈iZ):o=⟨1,IB,1,dB⟩\/o=⟨2,DZ,2,I7⟩\/o=⟨3,o4,3,LJ⟩:=by
 unfold iZ at h;simpa using h
theorem tf:dB.size=4/\I7.size=36/\LJ.size=35/\IB.size=32/\DZ.size=32/\o4.size=32:=⟨rfl,rfl,rfl,rfl,rfl,rfl⟩
theorem L0:∀k s,(cJ iZ k s).2<=6000:=λk s=>by
 unfold cJ;split
 .rename_i o ho;obtain⟨z1,z2,z3,-⟩:=tf;rcases xk (Oz ho).1 with rfl|rfl|rfl
  .show dB.size<=_;omega
  .show I7.size<=_;omega
  show LJ.size<=_;omega
 .decide
theorem JK:∀s∈df D1,s.size=64:=by
 have e:df D1=FV:=rfl;rw[e];intro s hs;unfold FV at hs;rcases List.mem_append.1 hs with h|h
 .simp only[OS,List.not_mem_nil,or_false]at h;rcases h with rfl|rfl|rfl|rfl|rfl<;>rfl
 rw[MY h];rfl
theorem CC:fO (gu D1 (cJ iZ 3 o4).1 (cJ iZ 3 o4).2)=some [NL]:=by rw[Ix];show fO (gu D1 3 35)=_;rw[GR];exact IJ
theorem O9:One D1 iZ o4 NL dB:=⟨rfl,tj,CC,rfl,dE,rfl,Oo,Ha,L0⟩
theorem Ly:OQ D1 iZ o4 [fB] X1:=by
 refine⟨rfl,λj hj=>?_,λj hj=>?_,λj hj=>?_⟩
 all_goals obtain rfl:j=0:=by simpa using hj
 .exact⟨rfl,rfl⟩
 .exact⟨tj,CC⟩
 .rfl
theorem MT:OQ D1 iZ o4 [] X1:=⟨rfl,λj hj=>(by cases hj),λj hj=>(by cases hj),λj hj=>(by cases hj)⟩
section
variable {w0 W W':World} {a:Nat->Addr} {mx:Int} {bw i:Nat} {S:Nat->Nat->Prop} {x:lC} {st:jc} {sh:List jb} {ks:List Int}
theorem J1(b:eS w0 a mx)(h:AL w0 W bw i S x st sh ks):
  Calls prog 51 #[yP x.ba,.int .i64 0,.string fB] W λe W'=>e=.returned (.tuple #[.string dB,.int .i64 0,.int .i64 (-1)])/\AL w0 W' bw i S x st sh ks/\cq (S 2) W W':=by
 obtain⟨nb,mb,ht⟩:=h.arc.tree;obtain⟨t,-,hr⟩:=h.arc.tab.row;refine(Ei w0 a mx b x.ba _ _ T1 fB W (h.arc.arcP ht hr) Oj h.below dE).mono ?_;rintro e W' ⟨rfl,hb⟩;rw[OX,Mj];exact⟨rfl,h.on hb,cq.of_below hb⟩
theorem G1(f:eS w0 a mx)(h:AL w0 W bw i S x st sh ks):
  Calls prog 28 #[yP x.ba,.int .i64 0,.string ⟨#[]⟩,.int .i64 0] W λe W'=>∃v,e=.returned (.tuple #[v,.int .i64 0,.int .i64 (-1),.bool false])/\AL w0 W' bw i S x st sh ks/\cq (S 2) W W'/\W'.ownsRow W.heap.size 52 3 v 1 (eE [(fB,false,4)]):=by
 refine(rX x.ba 0 (S 2) x.bd 0 D1 [(fB,false,4)] [] a mx ⟨#[]⟩ 0 W rfl (λq hq=>(h.fam.hi 2 q hq).2.1) dE xI (λV nv hV c=>?_) (f.on h.below) dE (by unfold yD;omega)).mono ?_
 .have h1:=h.on hV;obtain⟨nb,mb,ht⟩:=h1.arc.tree;obtain⟨t,-,hr⟩:=h1.arc.tab.row;have b:=dR xI;refine(zj x.ba _ _ T1 a mx nv [] V (h1.arc.arcP ht hr) Oj b.1 b.2 c.at (f.on h1.below)).mono ?_;rintro e V' ⟨v,rfl,hb,-,ho⟩;have ho:=ho CW;rw[MZ]at ho;rw[CW];exact⟨v,rfl,cq.of_below hb,(h1.on hb).dsk,ho⟩
 rintro e W' ⟨v,rfl,g1,g2,g3⟩;exact⟨v,rfl,h.dskOn g2 g1 rfl,g1,g3⟩
theorem JV(c:eS w0 a mx)(f:fL w0)(h:AL w0 W bw i S x st sh ks):
  Calls prog 51 #[yP x.ba,.int .i64 1,.string fB] W λe W'=>e=.returned (.tuple #[.string dB,.int .i64 0,.int .i64 (-1)])/\AL w0 W' bw i S x st sh ks/\cq (S 2) W W':=by
 refine B1 (λV=>AL w0 V bw i S x st sh ks/\cq (S 2) W V) x.ba 1 dE [fB] dB fB a mx W (c.on h.below) dE Mi (λV nv hV b=>?_) (λV V' hV hb=>⟨hV.1.on hb,hV.2.trans (cq.of_below hb)⟩) (λV hV=>c.sent.on hV.1.below);have h1:=h.on hV;refine(ut (S 2) x.bd 0 x.ba x.N x.a0 x.a1 x.a2 x.a3 54 1 D1 iZ [⟨xB,o4⟩] x.sv nv [fB] V h1.arcW (h1.envR f) uz dE JK L0 (λq hq=>(h1.fam.hi 2 q hq).2.1) (h1.arc.tab.cell (j:=3) dE) h1.arc.inf (λq hq e=>absurd (h1.fam.ap 1 2 q (h1.arc.infS q hq) e) dE) (λy hy=>by rw[List.mem_singleton.1 hy];exact tf.2.2.2.2.2) dE b dE 0 rfl dE X1 Ly rfl Oo).mono ?_;rintro e V' ⟨g1,g2,rfl⟩;have e1:mF D1 iZ (X1 [fB].length).sum=dB:=Ha;rw[e1];exact⟨rfl,h1.dskOn g1.dsk g2 rfl,(cq.of_below hV).trans g2⟩
theorem Hu(c:eS w0 a mx)(f:fL w0)(h:AL w0 W bw i S x st sh ks):
  Calls prog 28 #[yP x.ba,.int .i64 1,.string ⟨#[]⟩,.int .i64 0] W λe W'=>∃v,e=.returned (.tuple #[v,.int .i64 0,.int .i64 (-1),.bool false])/\AL w0 W' bw i S x st sh ks/\cq (S 2) W W'/\W'.ownsRow W.heap.size 52 3 v 1 (eE [(fB,false,4)]):=by
 refine(rX x.ba 1 (S 2) x.bd 0 D1 [(fB,false,4)] [] a mx ⟨#[]⟩ 0 W rfl (λq hq=>(h.fam.hi 2 q hq).2.1) dE xI (λV nv hV b=>?_) (c.on h.below) dE (by unfold yD;omega)).mono ?_
 .have h1:=h.on hV;refine xz x.ba 1 dE nv V (λe w'=>∃v,e=.returned (.tuple #[v,.nilIface])/\cq (S 2) V w'/\cD w' (S 2) x.bd 0 D1/\w'.ownsRow V.heap.size 52 3 v [((fB,false,4):ByteArray×Bool×Nat)].length (eE [(fB,false,4)])) ?_;refine(tF (S 2) x.bd 0 x.ba x.N x.a0 x.a1 x.a2 x.a3 54 1 D1 iZ [⟨xB,o4⟩] x.sv nv [] V h1.arcW (h1.envR f) uz dE JK L0 (λq hq=>(h1.fam.hi 2 q hq).2.1) (h1.arc.tab.cell (j:=3) dE) h1.arc.inf (λq hq e=>absurd (h1.fam.ap 1 2 q (h1.arc.infS q hq) e) dE) (λy hy=>by rw[List.mem_singleton.1 hy];exact tf.2.2.2.2.2) dE b dE 0 rfl dE X1 MT rfl [NL] ⟨tj,CC,dE⟩ (λy=>(y.name,y.dir,if y.dir then 0 else 4)) (λy hy=>?_)).mono ?_
  .rw[List.mem_singleton.1 hy];refine⟨rfl,xy,4,?_,rfl⟩;show jJ (gu D1 (cJ iZ 2 DZ).1 (cJ iZ 2 DZ).2)=_;rw[AG];show jJ (gu D1 2 36)=_;rw[xL];exact Dc
  rintro e V' ⟨g1,g2,v,rfl,g3⟩;exact⟨v,rfl,v,rfl,g2,g1.dsk,g3⟩
 rintro e W' ⟨v,rfl,g1,g2,g3⟩;exact⟨v,rfl,h.dskOn g2 g1 rfl,g1,g3⟩
theorem AM(h:AL w0 W bw i S x st sh ks):
  Calls prog 35 #[yP x.ba] W λe W'=>∃g c,e=.returned (.slice (yS g 0) 1 c)/\Below W.heap.size W W'/\W'.heap.size=W'.heap.size/\W'.cell? (yA g 0)=some (.int .i64 1)/\W'.cell? (yA g 1)=some (.string xB)/\W'.cell? (yA g 2)=some (.string o4)/\W.heap.size<=g/\g<W'.heap.size:=by
 refine(ni x.ba 0 _ x.sv [⟨xB,o4⟩] W h.arc.tab rfl h.arc.inf (λy hy=>by rw[List.mem_singleton.1 hy];exact tf.2.2.2.2.2) dE).mono ?_;rintro e W' ⟨v,rfl,hb,ho⟩;have ho:W'.ownsRow W.heap.size 62 3 v 1 [.int .i64 1,.string xB,.string o4]:=ho;rcases ho.2 with⟨-,e⟩|⟨g,a,b,hv,hg,hr,-⟩
 .cases e
 have hc:=λj u hj=>PK ho (show v.ownBlock=some g by rw[hv];rfl) j u hj
 exact⟨g,a,by rw[hv],hb,rfl,hc 0 _ rfl,hc 1 _ rfl,hc 2 _ rfl,hg,cm hr⟩
end
end
section
open Go.RowKit Go.Maps
theorem Oh{o:Ob}(h:o∈iZ):jf D1 o.at_ o.text.size o.sum:=by
 have g1:=Dh;have g2:=xy;have g3:=tj;rw[K4]at g1;rw[AG]at g2;rw[Ix]at g3;rcases xk h with rfl|rfl|rfl
 .exact g1
 .exact g2
 exact g3
theorem Oa:∀o∈iZ,jf D1 o.at_ o.text.size o.sum/\o.text.size<=1000/\o.sum.size=32:=λo ho=>by
 refine⟨Oh ho,?_⟩;rcases xk ho with rfl|rfl|rfl<;>exact⟨dE,rfl⟩
section
variable {w0 W:World} {a:Nat->Addr} {mx:Int} {bw i:Nat} {S:Nat->Nat->Prop} {x:lC} {st:jc} {sh:List jb} {ks:List Int}
theorem E3(g:eS w0 a mx)(j:fL w0)(h:AL w0 W bw i S x st sh ks):
  Calls prog 61 #[yP x.ba] W λe W'=>e=.returned (.tuple #[.int .i64 0,.int .i64 (-1)])/\AL w0 W' bw i S x st sh ks/\cq (S 2) W W':=by
 have HV:Hid (Calls prog 103 #[yP x.ba] W λe W'=>e=.returned .nilIface/\AL w0 W' bw i S x st sh ks/\cq (S 2) W W'):=by refine(AA (S 1) (S 2) x.ba x.bd 0 54 x.N x.rb x.a0 x.a1 x.a2 x.a3 _ _ _ x.sv false D1 iZ _ T1 W h.arc h.dsk (λq hq=>(h.fam.hi 2 q hq).2.1) (λq h1 h2=>absurd (h.fam.ap 1 2 q h1 h2) dE) (h.envR j) uz dE JK Oa (by have:=h.nN;omega)).mono ?_;rintro e W' ⟨rfl,h1,h2⟩;exact⟨rfl,h.dskOn h1 h2 rfl,h2⟩
 have HN:Hid (∀V,AL w0 V bw i S x st sh ks/\cq (S 2) W V->Calls prog 43 #[.nilIface] V λe V'=>e=.returned (.tuple #[.int .i64 0,.int .i64 (-1)])/\AL w0 V' bw i S x st sh ks/\cq (S 2) W V'):=λV hV=>by refine(gT 0 oM a V (g.sent.on hV.1.below)).mono ?_;rintro e V' ⟨rfl,hb⟩;exact⟨rfl,hV.1.on hb,hV.2.trans (cq.of_below hb)⟩
 clear h j g;go_enter func61,ntmps61
 go_wp2_with (first|(go_at_call 103;refine HV.mono ?_;rintro e w1 ⟨rfl,c⟩;have d:=Hid.mk' c;clear c)|(go_at_call 43;refine(HN _ d).mono ?_;rintro e w2 ⟨rfl,b⟩;have f:=Hid.mk' b;clear b))
 refine gh (lB rfl _ _ _) rfl ?_;exact⟨rfl,f⟩
def Py(w0:World)(bw i:Nat)(S:Nat->Nat->Prop)(x:lC)(st:jc)(sh:List jb)(ks:List Int)(lv:Value):Prop:=∀V,AL w0 V bw i S x st sh ks->ew V 0 lv [(fB,false,dB)]
theorem Ks(d:Int)(f:Value)(b:Py w0 bw i S x st sh ks f)(c:∀V,AL w0 V bw i S x st sh ks->Calls prog 28 #[yP x.ba,.int .i64 d,.string ⟨#[]⟩,.int .i64 0] V λe V'=>∃v,e=.returned (.tuple #[v,.int .i64 0,.int .i64 (-1),.bool false])/\AL w0 V' bw i S x st sh ks/\cq (S 2) V V'/\V'.ownsRow V.heap.size 52 3 v 1 (eE [(fB,false,4)]))(h:AL w0 W bw i S x st sh ks):
  Calls prog 102 #[yP x.ba,.int .i64 d,.string ⟨#[]⟩,f,.int .i64 0] W λe W'=>e=.returned (.tuple #[.int .i64 1,.bool true])/\AL w0 W' bw i S x st sh ks/\cq (S 2) W W':=by
 have HLS:=Hid.mk' (c W h);obtain⟨lo,lc,rfl⟩:=cQ (b W h);have HLV:=Hid.mk' b;clear b c h;go_enter func102,ntmps102
 go_wp2_with fail
 refine HLS.mono ?_;rintro e w1 ⟨v,rfl,h1,hs1,ho1⟩;obtain⟨ge,ce,rfl,-,-,hce⟩:=uj (E:=[(fB,false,4)]) ho1 dE;obtain⟨e0,e1,e2⟩:=hce 0 dE;have e0:=e0;have e1:=e1;have e2:=e2;obtain⟨gl,cl,hlv1,-,-,hcl⟩:=ew.open (HLV w1 h1) dE;have hlo:lo=some (yA gl 0):=by injection hlv1
 subst hlo;obtain⟨l0,l1,l2⟩:=hcl 0 dE;have l0:=l0;have l1:=l1;have l2:=l2
 have HFD:Hid (Calls prog 54 #[.slice (yS gl 0) 1 lc,.string fB] w1 λe w'=>e=.returned (.int .i64 0)/\w1=w'):=by
  refine(o8 0 _ [(fB,false,dB)] fB w1 (HLV w1 h1) dE).mono ?_;rintro e w' ⟨r,rfl,hr,rfl⟩;refine⟨?_,rfl⟩;rcases hr with⟨-,hr⟩|⟨j,hj,rfl,-⟩
  .exact absurd rfl (hr (fB,false,dB) sI)
  obtain rfl:j=0:=by simpa using hj
  rfl
 have HF:Hid (∀V,Below w1.heap.size w1 V->AL w0 V bw i S x st sh ks/\cq (S 2) W V):=λV hV=>⟨h1.on hV,hs1.trans (cq.of_below hV)⟩
 have hds:(dB.size:Int)=4:=rfl;clear HLS ho1 hce hcl hlv1 h1 hs1 HLV
 go_wp2_with fail
 go_loopw [16,17] (λav_ iv_ wr=>av_=.int .i64 1/\((iv_=.int .i64 0/\wr=w1)\/(iv_=.int .i64 1/\∃q,wr=w1.drewN q))) (λ_ iv_ _=>1-(intOf iv_).toNat)
 .exact⟨rfl,.inl ⟨rfl,rfl⟩⟩
 obtain⟨rfl,⟨rfl,rfl⟩|⟨rfl,q,rfl⟩⟩:=hrel
 .go_wp2_with fail
  refine HFD.mono ?_;rintro e w2 ⟨rfl,rfl⟩
  go_wp2_with fail
  go_quiet (fail)
  go_wp2_with fail
  go_roundw
  .exact⟨rfl,.inr ⟨by go_num,_,rfl⟩⟩
  exact mS
 go_wp2_with fail
 refine gh (lB rfl _ _ _) rfl ?_;exact⟨rfl,HF _ ⟨rfl,rfl,rfl,cO _,λ_ _=>rfl⟩⟩
end
end
end Go.Proofs.YtapijhhmjjplmaaGreatDoor

import Derived.Test.YtapijhhmjjplmaaGreatDoorJonce46
namespace Go.Proofs.YtapijhhmjjplmaaGreatDoor
set_option linter.all false
set_option maxRecDepth 100000
set_option maxHeartbeats 4000000
open Go.Proofs.Tryz
variable {br:Bool}{label s:ByteArray}{d' d:cX}{x:pp}{l:List ByteArray}{has:List Ob}{sh':List cS}{M:fm}{m n B ba bd N rb a0 a1 a2 a3 at_ seq chain g cap:Nat}{a:Nat→Addr}{S:Nat→Prop}{O:Obj}{K T T' K':cS}{shv v sv:Value}{W w W9:World}
section
open Go.RowKit Go.Maps
theorem Jy:(prog.info? 54).map (λi=>(i.zero,i.size,i.bytes))=some (some (.agg #[.slice none 0 0,.string ⟨#[]⟩,.string ⟨#[]⟩]),3,56):=kR
section
variable {w0 W W':World} {bw n i:Nat} {S:Nat->Nat->Prop} {x:lC} {st:jc} {M:fm} {T K:cS} {d:cX} {sh:List jb} {ks:List Int}
def O4(W:World)(m:Nat)(label root:ByteArray)(e:Ending)(W':World):Prop:=
 ∃g cap,e=.returned (.slice (yS g 0) (m+1) cap)/\Below W.heap.size W W'/\W'.cell? (yA g (m*3+1))=some (.string label)/\W'.cell? (yA g (m*3+2))=some (.string root)
theorem eV.infos(h:eV w0 W bw n i S x st (gz T M label) T K d' sh ks)(f:AW n (gz T M label))(j:M.infos.length=m):
  Calls prog 35 #[yP x.ba] W λe w'=>O4 W m label (gN T M) e w':=by
 have hl:=f.len;have h2:=f.sq2;have h3:=f.at2;have h4:=h.n4;have b:(gz T M label).infos.length=m+1:=by show(M.infos++[_]).length=_;rw[ir,j];rfl
 refine(ni x.ba 0 _ x.sv (gz T M label).infos W h.arc.tab rfl h.arc.inf (λy hy=>(f.inf y hy).r32) oM).mono ?_;rintro e w' ⟨v,rfl,hb,ho⟩;have c:KS (gz T M label).infos m=⟨label,gN T M⟩:=by show((M.infos++[(⟨label,gN T M⟩:jR)])[m]?).getD _=_;rw[<-j,List.getElem?_concat_length];rfl
 rw[b,vL,c]at ho;have a:(sR (gz T M label).infos m).length=m*3:=by unfold sR;rw[oB _ 3 (λ_=>rfl),NS]
 obtain⟨g,d,hv,-,hc,-⟩:=eP.open (S:=λ_=>True) ⟨fq ho (fP _),λ_ _=>trivial⟩ oM;refine⟨g,d,by rw[hv],hb,?_,?_⟩
 .have:=hc (m*3+1) (by rw[ir,a];show _<m*3+3;omega);rw[this];simp only[Of (show(sR (gz T M label).infos m).length<=m*3+1 by omega),a];simp
 have:=hc (m*3+2) (by rw[ir,a];show _<m*3+3;omega);rw[this];simp only[Of (show(sR (gz T M label).infos m).length<=m*3+2 by omega),a];simp
def PP(w0 W:World)(bw n i:Nat)(S:Nat->Nat->Prop)(M:fm)(T K:cS)(d:cX)(sh:List jb)(ks:List Int)(label:ByteArray)(e:Ending)(W':World):Prop:=
 e=.returned (.bool true)/\∃S' x' st',mG W bw S W' S'/\(eV w0 W' bw n (i+1) S' x' st' M T K d sh ks\/
  (label.size<=20/\(snapF T M label).at_<=n/\∃y:jb,y.T=K/\eV w0 W' bw n (i+1) S' x' st' (gz T M label) T K (gc T M label d).1 (sh++[y]) ks))
def Om(w0 W:World)(bw n i:Nat)(S:Nat->Nat->Prop)(st:jc)(M:fm)(T K:cS)(d:cX)(sh:List jb)(ks:List Int)(label:ByteArray)(e:Ending)(W':World):Prop:=
 e=.returned (.bool true)/\∃S' x' st',st'=eC st (fu K 9 []).1/\mG W bw S W' S'/\(((st'.2.2=true\/20<label.size\/n<(snapF T M label).at_)/\eV w0 W' bw n (i+1) S' x' st' M T K d sh ks)\/
  (label.size<=20/\(snapF T M label).at_<=n/\∃y:jb,y.T=K/\y.label=label/\y.root=gN T M/\eV w0 W' bw n (i+1) S' x' st' (gz T M label) T K (gc T M label d).1 (sh++[y]) ks))
theorem Om.weak{e:Ending}(h:Om w0 W bw n i S st M T K d sh ks label e W'):PP w0 W bw n i S M T K d sh ks label e W':=by
 obtain⟨h1,S',x',a,-,h2,⟨-,h3⟩|⟨h3,h4,y,h5,-,-,h6⟩⟩:=h
 .exact⟨h1,S',x',a,h2,.inl h3⟩
 exact⟨h1,S',x',a,h2,.inr ⟨h3,h4,y,h5,h6⟩⟩
end
theorem Dl(w0:World)(a:Nat->Addr)(l:jm w0 a)(f:fL w0)(W:World)(bw n i:Nat)(S:Nat->Nat->Prop)(x:lC)(st:jc)(M:fm)(T K:cS)(d:cX)(sh:List jb)(ks:List Int)(label:ByteArray)(h:eV w0 W bw n i S x st M T K d sh ks)(c:mU n M T K d (sh.map (·.T)))(o:label.size<=300000)(p:i<=70000):
  Calls prog 30 #[yP bw,.string label] W λe W'=>Om w0 W bw n i S st M T K d sh ks label e W':=by
 have hKw:=eN.perm c.wf c.perm.symm;have hK16:=mV.perm c.k16 c.perm.symm;have HND:Hid (Calls prog 52 #[yP bw,.string ⟨#[]⟩] W λe W'=>∃s,e=.returned (.string s)/\∃S1 tv ssv st1,st1=eC st (fu K 9 []).1/\eV w0 W' bw n (i+1) S1 {x with tv:=tv,ssv:=ssv} st1 M T K d sh ks/\mG W bw S W' S1):=by have hln:=Be hKw;have hnh:=h.nh;refine(Iv bw x.R x.trv K hKw 9 [] (by intro q hq;cases hq) rfl (.inl rfl) W (S 3) st x.tv x.ssv (h.knq f hKw hK16) h.hs oM).mono ?_;rintro e W' ⟨rfl,hc⟩;have h1:=(ph h.hs.len (fu K 9 []).1).2;obtain⟨S1,tv,ssv,h2⟩:=h.node oM hc;exact⟨_,rfl,S1,tv,ssv,_,rfl,h2⟩
 have HOP:=Hid.mk' c;have HNS:=Hid.mk' h.ns;have HLB:=Hid.mk' o;have HI7:=Hid.mk' p;have HKL:Hid ((K.map tk).length<=100000):=by show _<=_;rw[iF];have:=hKw.len;omega
 have HS0:=Hid.mk' l;have HT0:=Hid.mk' f;obtain⟨i0,hi0,hz0,hz1,hz2⟩:=Ba Jy;have HIE:Hid (prog.info? 54=some i0/\i0.zero=some (.agg #[.slice none 0 0,.string ⟨#[]⟩,.string ⟨#[]⟩])/\i0.size=3/\i0.bytes=56):=⟨hi0,hz0,hz1,hz2⟩;clear h o p hKw hK16 l f hi0 hz0 hz1 hz2 c;go_enter func30,ntmps30
 go_wp2_with (refine HND.out.mono ?_)
 rintro e V1 ⟨s,rfl,S1,tv,ssv,st1,hst1,h1,hf1⟩;have HST1:=Hid.mk' hst1;clear hst1;clear HND;have HF1:=Hid.mk' hf1;clear hf1;have HM1:=Hid.mk' h1;obtain⟨-,-,c3,-,-,-,c10⟩:=h1.cells;obtain⟨vd,hvd⟩:∃b,b=st1.2.2:=⟨_,rfl⟩;rw[<-hvd]at c10;obtain⟨tp,tc,htv⟩:=cQ h1.tree.1;simp only at c3 htv;obtain⟨kn,hkn⟩:=eX ((K.map tk).length);rw[htv,<-hkn]at c3;have HTV:Hid (x.trv=.slice tp kn tc):=hkn▸htv;have HKN:=Hid.mk' hkn;have HVD:=Hid.mk' hvd;clear h1 hvd htv hkn;cases vd
 case true=>
  go_wp2
  go_ret;exact⟨rfl,S1,_,st1,HST1.out,HF1.out,.inl ⟨.inl HVD.out.symm,HM1.out⟩⟩
 case false=>
  have HF2:Hid (∀v2 V2,ew V2 V1.heap.size v2 (K.map tk)->(V1.alloc (.cells #[] 109)).grownBy V2 (Value.ownBlock (.slice (yS V1.heap.size 0) 0 0))->eV w0 V2 bw n (i+1) S1 {x with tv:=tv,ssv:=ssv} st1 M T K d sh ks/\KL w0 V2 bw S1 v2 K/\mG W bw S V2 S1/\∀q,v2.ownBlock=some q->W.heap.size<=q):=λv2 V2 hv hg=>by have hb:Below V1.heap.size V1 V2:=((dw V1.heap.size V1).alloc (cO _) _).grown hg sI (λq hq=>by cases hq;exact cO _);exact⟨(HM1.out.copy hb hv).1,(HM1.out.copy hb hv).2,HF1.out.trans (.below hb),λq hq=>by have:=(cr hv q hq).1;have:=HF1.out.same.size;omega⟩
  have HC1:Hid (ew (V1.alloc (.cells #[] 109)) 0 (.slice tp kn tc) (K.map tk)/\(K.map tk).length<=100000):=by refine⟨?_,HKL.out⟩;rw[<-HTV.out];exact rI (w:=V1) HM1.out.tree.1 _
  have c3a:(V1.alloc (.cells #[] 109)).cell? (yA bw 3)=some (.slice tp kn tc):=by rw[vY _ _ _ (by rw[c3];rfl)];exact c3
  go_wp2_with (at_builtin;refine qT rfl (.tmp 16) (.tmp 20) rfl V1.heap.size 0 (.slice (yS V1.heap.size 0) 0 0) (.slice tp kn tc) (K.map tk) rfl rfl (World.ownsRow_lit V1 #[] 0 (cO _) dE rfl) HC1.out.1 HC1.out.2 sI ?_;intro v2 V2 hv2 hg2;have HM2:=Hid.mk' (HF2.out v2 V2 hv2 hg2);have d1:V2.cell? (yA bw 1)=some (yP x.bd):=HM2.out.1.cells.1;obtain⟨vo,vc,hvv⟩:=cQ hv2;rw[<-HKN.out]at hvv;subst hvv;clear hv2 hg2 HF2 c3a c3 c10 HC1)
  have HWT:Hid (Calls prog 53 #[yP x.bd] V2 λe V3=>e=.returned (.int .i64 0)/\eV w0 V3 bw n (i+1) S1 {x with tv:=tv,ssv:=ssv} st1 M T K d sh ks/\KL w0 V3 bw S1 (.slice vo kn vc) K/\mG W bw S V3 S1):=by refine(rJ x.bd 0 (S1 2) d V2 HM2.out.1.dsk).mono ?_;rintro e V3 ⟨rfl,e2,e3⟩;exact⟨by rw[HOP.out.cl.w];rfl,HM2.out.1.dskOn e2 e3 HOP.out.cl.w,HM2.out.2.1.on e3 (λq hq=>⟨2,hq⟩) (λk q hq=>.inl hq),HM2.out.2.2.1.trans (.of e3 (λq hq=>⟨2,hq⟩))⟩
  go_wp2_with (refine HWT.out.mono ?_)
  rintro e V3 ⟨rfl,h3,h4,hf3⟩;have HVB:=Hid.mk' HM2.out.2.2.2;have HF3:=Hid.mk' hf3;clear HWT HM2 d1 hf3 HF1;have HM3:=Hid.mk' h3;have HC3:=Hid.mk' h4;have d2:=h3.cells.2.1;have HSN:=hD (HM3.out.snMid HS0.out HT0.out HOP.out HC3.out label HLB.out);clear h3 h4
  go_wp2_with (refine HSN.out.mono ?_)
  intro e V4 h4;clear HSN d2 HM3 HC3;rcases h4 with⟨he,hwhy,S4,x4,hbd,h4,hf4⟩|⟨hl20,hfit,rfl,S4,x4,hbd,hba,htr,hsh,h4,hc4,hf4⟩
  .have d1:=h4.cells.1;have HWT:Hid (Calls prog 53 #[yP x4.bd] V4 λe V5=>e=.returned (.int .i64 0)/\Om w0 W bw n i S st M T K d sh ks label (.returned (.bool true)) V5):=by refine(rJ x4.bd 0 (S4 2) d V4 h4.dsk).mono ?_;rintro e V3 ⟨rfl,e2,e3⟩;exact⟨by rw[HOP.out.cl.w];rfl,rfl,S4,x4,st1,HST1.out,(HF3.out.trans hf4).trans (.of e3 (λq hq=>⟨2,hq⟩)),.inl ⟨.inr hwhy,h4.dskOn e2 e3 HOP.out.cl.w⟩⟩
   clear h4 hbd hf4 HF3 HVB hwhy;rcases he with rfl|rfl
   .go_wp2_with (refine HWT.out.mono ?_)
    rintro e V5 ⟨rfl,h5⟩;have H5:=Hid.mk' h5;clear h5 HWT d1
    go_wp2
    go_ret;exact H5.out
   go_wp2_with (refine HWT.out.mono ?_)
   rintro e V5 ⟨rfl,h5⟩;have H5:=Hid.mk' h5;clear h5 HWT d1
   go_wp2
   go_ret;exact H5.out
  have HOP2:Hid (mU n (gz T M label) T K (gc T M label d).1 (sh.map (·.T)++[K])):=(HOP.out.snap hl20 hfit).2.1;have hcnt:M.infos.length=sh.length:=by have:=HOP.out.cnt;rw[iF]at this;exact this
  obtain⟨m,hm⟩:=eX (sh.length);have HMM:=Hid.mk' hm;rw[<-hm]at hcnt;have hmi:m<=70000:=by have:=h4.ns;have:=HI7.out;have:=HOP2.out.aw.len;have:=HOP2.out.aw.sq2;have:=HOP2.out.aw.at2;have:=h4.n4;have e:(gz T M label).infos.length=m+1:=(by show(M.infos++[_]).length=_;rw[ir,hcnt];rfl);omega
  have d2:=h4.cells.2.1;have HIN:=hD (h4.infos HOP2.out.aw hcnt);have HM4:=Hid.mk' h4;have HC4:=Hid.mk' hc4;have HFT:Hid (label.size<=20/\(snapF T M label).at_<=n):=⟨hl20,hfit⟩;rw[<-hm];have HF4:=Hid.mk' (HF3.out.trans hf4);clear hf4 HF3 h4 hc4 hbd hba htr hsh hl20 hfit hm hcnt
  go_wp2_with (refine HIN.out.mono ?_)
  rintro e V5 ⟨g,cap,rfl,hb5,f1,f2⟩;have h5:=HM4.out.on hb5;have HF5:=Hid.mk' (HF4.out.trans (.below hb5));have hc5:=HC4.out.on (S':=S4) (U:=λ_=>False) (cq.of_below hb5) (λ_ h=>h.elim) (λk q hq=>.inl hq);clear HIN d2 HM4 HC4 hb5 HF4;obtain⟨root,hroot⟩:∃r,r=gN T M:=⟨_,rfl⟩;rw[<-hroot]at f2;obtain⟨so,sc,hsv⟩:=cQ h5.shr.1;rw[<-HMM.out]at hsv;have d4:V5.cell? (yA bw 4)=some (.slice so m sc):=by rw[<-hsv];exact h5.cells.2.2.2.1
  have d7:=h5.cells.2.2.2.2.2.1;have HM5:=Hid.mk' h5;have HC5:=Hid.mk' hc5;have HSV:=Hid.mk' hsv;have hse:=fI label label;rw[jX rfl]at hse;have hmI:(m:Int)<=70000:=oM;have HROOT:=Hid.mk' hroot;clear h5 hc5 hsv hroot;have HO5:Hid (V5.ownsRow 0 54 3 (.slice so m sc) m (mJ sh)):=by rw[<-HSV.out,HMM.out];exact HM5.out.shr.1
  have HFIN:Hid (∀g9 cap9 W9,W9.ownsRow 0 54 3 (.slice (yS g9 0) (m+1) cap9) (m+1) (mJ sh++[.slice vo kn vc,.string label,.string root])->(V5.alloc (.cells #[.slice vo kn vc,.string label,.string root] 54)).drew.grownBy W9 (Value.ownBlock (.slice so m sc))->(Value.ownBlock (.slice so m sc)=some g9\/g9=V5.heap.size+1)->g9<W9.heap.size->W9.cell? (yA bw 4)=some (.slice so m sc)/\W9.frozen? (yA bw 4)=false/\∀W6,W6=W9.setCell (yA bw 4) (.slice (yS g9 0) (m+1) cap9)->W6.cell? (yA bw 7)=some (.bool false)/\Om w0 W bw n i S st M T K d sh ks label (.returned (.bool true)) W6):=by
   intro g9 cap9 W9 h1 h2 h3 h4;have hmm:=HMM.out;have h5:=HM5.out;rw[<-HSV.out]at h2 h3;rw[hmm]at h1;obtain⟨r1,S6,r2,r3,r4⟩:=h5.shot (label:=label) (root:=root) HC5.out.1 HC5.out.2 (by have:=HNS.out;omega) h1 (⟨h2.os,h2.tape,h2.output,h2.size,h2.block⟩:(V5.alloc (.cells #[.slice vo kn vc,.string label,.string root] 54)).grownBy W9 x4.shv.ownBlock) h3 h4;rw[<-hmm]at r2 r3;refine⟨by rw[cG r1,<-HSV.out];rfl,fH W9 bw 4 _ _ r1,λW6 hW6=>?_⟩;rw[<-hW6]at r2 r3
   exact⟨r2.cells.2.2.2.2.2.1,rfl,S6,_,st1,HST1.out,⟨(HF5.out.trans (⟨r3,λk _ h=>.inl ⟨k,h⟩⟩:mG V5 bw S4 W6 S4)).same,λk q hq=>by
    rcases r4 k q hq with⟨j,e⟩|e|e
    .exact HF5.out.new j q e
    .exact .inr (lZ HF5.out.same.size e)
    exact .inr (HVB.out q e)⟩,.inr ⟨HFT.out.1,HFT.out.2,_,rfl,rfl,HROOT.out,r2⟩⟩
  clear HM5 HC5 HOP2 HF5 HVB;have hwm:IntKind.i64.wrap (m:Int)=(m:Int):=by rw[pH];omega
  have hm1:(m:Int)<(m:Int)+1:=oM;have c4a:(V5.alloc (.cells #[.slice vo kn vc,.string label,.string root] 54)).cell? (yA bw 4)=some (.slice so m sc):=by rw[vY _ _ _ (by rw[d4];rfl)];exact d4
  go_wp2_with fail
  go_region_law (first|(refine O8 _ rfl _ _ 33 rfl 0 54 i0 (.agg #[.slice none 0 0,.string ⟨#[]⟩,.string ⟨#[]⟩]) 3 56 underlying33 HIE.out.1 HIE.out.2.1 HIE.out.2.2.1 HIE.out.2.2.2 rfl dE (.slice so m sc) m (mJ sh) rfl (rI (w:=V5) HO5.out _) (yA V5.heap.size 0) 1 1 [.slice vo kn vc,.string label,.string root] rfl rfl (λj u hj=>ip V5 _ _ _ _ j u hj) (by intro u hu;simp at hu;rcases hu with rfl|rfl|rfl<;>rfl) dE (by unfold maxLen;omega) oM oM (V5.heap.size+1) sI ?_;intro g9 cap9 W9 hown hgrow hat hlt;have hfin:=HFIN.out g9 cap9 W9 hown hgrow hat hlt;have k3:=hfin.1;have f3:=hfin.2.1;have k7:=(hfin.2.2 _ rfl).1;have HG:=Hid.mk' (hfin.2.2 _ rfl).2;clear hfin hown hgrow hat hlt))
  all_goals
   go_wp2
   go_ret;exact HG.out
theorem LI(w0:World)(a:Nat->Addr)(b:jm w0 a)(c:fL w0)(W:World)(bw n i:Nat)(S:Nat->Nat->Prop)(x:lC)(st:jc)(M:fm)(T K:cS)(d:cX)(sh:List jb)(ks:List Int)(label:ByteArray)(h:eV w0 W bw n i S x st M T K d sh ks)(f:mU n M T K d (sh.map (·.T)))(g:label.size<=300000)(j:i<=70000):
  Calls prog 30 #[yP bw,.string label] W λe W'=>PP w0 W bw n i S M T K d sh ks label e W':=
 (Dl w0 a b c W bw n i S x st M T K d sh ks label h f g j).mono (λ_ _ h=>h.weak)
end
section
open Go.RowKit Go.Maps
theorem nY:∀(S K:cS),(S.map (·.names)).Nodup->S.length=K.length->(∀x∈S,x∈K)->S.Perm K
 |[],K,_,hl,_=>by have:K=[]:=OR hl.symm;rw[this]
 |x::r,K,hd,hl,hs=>by
  obtain⟨a,b,rfl⟩:=Qw (hs x sI);rw[vj,N3]at hd;refine List.Perm.trans ?_ List.perm_middle.symm;refine List.Perm.cons x (nY r (a++b) hd.2 ?_ (λy hy=>?_))
  .simp only[mY,ir]at hl⊢;omega
  have h1:=hs y (Nx _ hy);rcases List.mem_append.1 h1 with h2|h2
  .exact List.mem_append.2 (.inl h2)
  rcases List.mem_cons.1 h2 with h3|h3
  .subst h3;exact absurd (Nu hy) hd.1
  exact List.mem_append.2 (.inr h3)
theorem Nb{z:pp}(e:fp x.names)(hz:fp z.names)(h:tk x=tk z):x=z:=by
 obtain⟨a,b,c⟩:=x;obtain⟨a',b',c'⟩:=z;unfold tk at h;simp only[P1]at h;have:=lU e hz h.1;simp only at this;rw[this,h.2.1,h.2.2]
theorem CA{S:cS}(b:eN S)(c:eN K)(h:tQ (S.map tk) (K.map tk))(p:List ByteArray):cA S p=cA K p:=by
 refine jB (nY S K b.dis (by have:=h.1;rw[iF,iF]at this;exact this) (λx hx=>?_)) b.dis p;obtain⟨z,hz,he⟩:=List.mem_map.1 (h.2 (tk x) (Nu hx));rw[Nb (b.val x hx).2.2 (c.val z hz).2.2 he.symm];exact hz
def Pw(sh:List jb)(K:cS):Prop:=∃y∈sh,tQ (y.T.map tk) (K.map tk)
theorem mU.old{sh:List jb}(h:mU n M T K d (sh.map (·.T)))(b:Pw sh K):wt T M.has/\M.infos≠[]:=by
 obtain⟨y,hy,ha⟩:=b;have a:=eN.perm h.wf h.perm.symm;obtain⟨h1,h2⟩:=h.cov y.T (Nu hy);have hl:∀p,cA y.T p=cA T p:=λp=>by rw[CA h1 a ha p];exact jB h.perm a.dis p
 refine⟨wt.look h1 h.wf hl h2,λe=>?_⟩;have:=h.cnt;rw[e,iF]at this;have:=List.length_pos_iff.2 (List.ne_nil_of_mem hy);simp only[List.length_nil]at*;omega
def Rt(w0 W:World)(bw n i:Nat)(S:Nat->Nat->Prop)(T K:cS)(ks:List Int)(e:Ending)(W':World):Prop:=
 e=.returned (.bool true)/\∃S' x' st' M' d' sh',mG W bw S W' S'/\eV w0 W' bw n (i+1) S' x' st' M' T K d' sh' ks/\mU n M' T K d' (sh'.map (·.T))
section
variable {w0 W W':World} {bw n i:Nat} {S:Nat->Nat->Prop} {x:lC} {st:jc} {M:fm} {T K:cS} {d:cX} {sh:List jb} {ks:List Int}
def QY(w0 W:World)(bw n i:Nat)(S:Nat->Nat->Prop)(x:lC)(st:jc)(M:fm)(T K:cS)(d:cX)(sh:List jb)(ks:List Int)(e:Ending)(W':World):Prop:=
 ∃v,e=.returned (.tuple #[.int .i64 (eJ d.safe n:Int),v])/\mG W bw S W' S/\eV w0 W' bw n i S x st M T K d sh ks/\W'.ownsRow W.heap.size 9 1 v n (em d.safe)
theorem eV.used(c:jm w0 a)(h:eV w0 W bw n i S x st M T K d sh ks)(b:mU n M T K d sh'):
  Calls prog 38 #[yP bw] W λe W'=>QY w0 W bw n i S x st M T K d sh ks e W':=by
 refine(L8 w0 a c bw x.bd 0 (S 2) d W h.dsk b.cl.w (by rw[b.dn];exact h.n4) h.cells.1 (λe=>(h.fam.hi 2 bw e).2.2 rfl) h.below (λg hg=>(h.fam.hi 2 g hg).1) (λg hg=>(h.fam.hi 2 g hg).2.1)).mono ?_;rintro e W' ⟨v,rfl,hu⟩;refine⟨v,by rw[b.dn],.of hu.same (λq hq=>⟨2,hq⟩),h.dskOn hu.dsk hu.same b.cl.w,?_⟩;have:=hu.own;rw[pK (cO _),b.dn]at this;exact this
theorem I5{S:Nat->Nat->Prop}{sh:List jb}(h:eP W (S 5) 54 3 shv sh.length (mJ sh))(b:0<sh.length):∃g cap,shv=.slice (yS g 0) sh.length cap/\g<W.heap.size/\∀j (hj:j<sh.length),W.cell? (yA g (j*3))=some sh[j].v:=by
 obtain⟨g,cap,hv,-,hc,-⟩:=eP.open h b;refine⟨g,cap,hv,eP.lt h (by rw[hv];rfl),λj hj=>?_⟩;have hl:j*3+0<(mJ sh).length:=by unfold mJ;rw[oB FQ 3 (λ_=>rfl)];omega
 have h1:=hc _ hl;have h2:(mJ sh)[j*3+0]?=(FQ sh[j])[0]?:=uk FQ 3 (λ_=>rfl) sh j hj 0 oM;rw[pI hl]at h2;exact h1.trans h2
def Lk(w0 W:World)(bw n i:Nat)(S:Nat->Nat->Prop)(T K:cS)(d:cX)(sh:List jb)(ks:List Int)(W':World):Prop:=
 ∃S' x' st' M' d' sh',mG W bw S W' S'/\eV w0 W' bw n (i+1) S' x' st' M' T K d' sh' ks/\mU n M' T K d' (sh'.map (·.T))/\(∀j,j<eJ d.safe n->d'.safe.getD j z64=d.safe.getD j z64)/\
  ((sh'.length=sh.length/\eJ d'.safe n=eJ d.safe n)\/(sh'.length=sh.length+1/\(Pw sh K->eJ d'.safe n<=eJ d.safe n+3/\eJ d.safe n<eJ d'.safe n)))
theorem PP.mid{e:Ending}(g:mU n M T K d (sh.map (·.T)))(h:PP w0 W bw n i S M T K d sh ks label e W'):e=.returned (.bool true)/\Lk w0 W bw n i S T K d sh ks W':=by
 obtain⟨he,S',x',c,hf,h|⟨hl,b,y,hy,h⟩⟩:=h
 .exact⟨he,S',x',c,M,d,sh,hf,h,g,λ_ _=>rfl,.inl ⟨rfl,rfl⟩⟩
 obtain⟨-,f,h3,h4⟩:=g.snap hl b;refine⟨he,S',x',c,_,_,_,hf,h,?_,h3,.inr ⟨by rw[ir];rfl,λa=>?_⟩⟩
 .rw[qA,Cw,hy];exact f
 obtain⟨c1,c2⟩:=g.old a;exact h4 c1 c2
theorem CY(h:W.ownsRow B 9 1 v m (em l))(c:l.length=m)(b:0<m):∃g cap,v=.slice (yS g 0) m cap/\∀j,j<m->W.cell? (yA g j)=some (.string (l.getD j z64)):=by
 obtain⟨g,cap,hv,-,hc,-⟩:=eP.open (S:=λ_=>True) ⟨fq h (fP _),λ_ _=>trivial⟩ b;refine⟨g,cap,hv,λj hj=>?_⟩;rw[hc j (by rw[iT];omega)];simp[em,Dv,pI (show j<l.length by omega)]
end
end
section
open Go.RowKit Go.Maps
theorem EO(h:eN T)(s:ByteArray):eN (dz T (ff T) s):=by
 cases hp:cZ s with
 |none=>rw[iu hp];exact h
 |some l=>
  by_cases h0:l=[]
  .subst h0;rw[iV hp];exact h
  rw[eL hp h0];obtain⟨hv,h8⟩:=dR hp;unfold ff;split
  .exact h
  rename_i he;have he:=Decidable.not_not.1 he;unfold eY at he;by_cases hs:dD T l=0
  .rw[dj (by rw[hs];simp)]at he
   cases hn:cA T l with
   |some x=>rw[hn]at he;simp at he
   |none=>
    rw[hn]at he;cases hf:fZ T l.dropLast
    .exact h.append hv h8 h0 hs hn hf true _ (λ_=>rfl) (by show 0<=1536;omega)
    rw[hf]at he;simp at he
  rw[dq hs]at he;exact(hs he).elim
theorem Dr(h:eN T)(s d:ByteArray):eN (dz T (λl=>ia T l d) s):=by
 cases hp:cZ s with
 |none=>rw[iu hp];exact h
 |some l=>
  by_cases h0:l=[]
  .subst h0;rw[iV hp];exact h
  rw[eL hp h0];obtain⟨hv,h8⟩:=dR hp;show eN (ia T l d);by_cases hb:1536<d.size
  .rw[(uw hb).2];exact h
  by_cases hs:dD T l=0
  .cases hn:cA T l with
   |some x=>
    rw[(vP hb hs hn).2];cases hd:x.dir
    .rw[dj (by simp)];exact h.set hn hd d oM
    rw[dq rfl];exact h
   |none=>
    rw[(vT hb hs hn).2];cases hf:fZ T l.dropLast
    .rw[dj (by simp)];exact h.append hv h8 h0 hs hn hf false d (λh=>by cases h) oM
    rw[dq rfl];exact h
  rw[(wI hb hs).2];exact h
theorem CI(h:eN T)(s:ByteArray):eN (dz T (d9 T) s):=by
 cases hp:cZ s with
 |none=>rw[iu hp];exact h
 |some l=>
  by_cases h0:l=[]
  .subst h0;rw[iV hp];exact h
  rw[eL hp h0];unfold d9;split
  .exact h
  rename_i he;have he:=Decidable.not_not.1 he;unfold dV at he;by_cases hk:dZ T l=[]
  .exact h.drop hk
  by_cases hs:dD T l=0
  .rw[dj (by rw[hs];simp)]at he;by_cases hn:(cA T l).isNone=true
   .rw[dq hn]at he;cases he
   rw[dj hn,dq hk]at he;cases he
  rw[dq hs]at he;exact(hs he).elim
theorem qU{f:List ByteArray->Nat}(hc:da f s=0):∃l,cZ s=some l/\l≠[]/\f l=0/\dy l=s/\fp l:=by
 cases hp:cZ s with
 |none=>rw[ij hp]at hc;cases hc
 |some l=>
  by_cases h0:l=[]
  .subst h0;rw[iW hp]at hc;cases hc
  rw[ee hp h0]at hc;exact⟨l,rfl,h0,hc,Cz hp,(dR hp).1⟩
theorem uZ{f:List ByteArray->Nat}{g:List ByteArray->cS}(hc:da f s≠0)(h:∀l,f l≠0->g l=T):dz T g s=T:=by
 cases hp:cZ s with
 |none=>exact iu hp
 |some l=>
  by_cases h0:l=[]
  .subst h0;exact iV hp
  rw[ee hp h0]at hc;rw[eL hp h0];exact h l hc
theorem re(g:eN K)(k:dy l=s)(hv:fp l){r:Int}(h:mD (K.map tk) s r):
  (r= -1/\cA K l=none)\/∃i:Nat,r=(i:Int)/\(cA K l).isSome/\∀j (k:j<(K.map tk).length),(K.map tk)[j].1=s↔j=i:=by
 have c:∀y∈K,dy y.names=s->y.names=l:=λy hy e=>lU (g.val y hy).2.2 hv (e.trans k.symm)
 rcases h with⟨h1,h2⟩|⟨i,hi,h1,h2⟩
 .refine .inl ⟨h1,?_⟩
  cases hx:cA K l with
  |none=>rfl
  |some y=>
   obtain⟨e1,e2⟩:=dI hx;exact absurd (show(tk y).1=s by show dy y.names=s;rw[e2];exact k) (h2 (tk y) (Nu e1))
 have a:i<K.length:=by rw[iF]at hi;exact hi
 have hn:K[i].names=l:=c _ (mX a) (by rw[Aw]at h2;exact h2);refine .inr ⟨i,h1,?_,λj d=>⟨λe=>?_,λe=>by subst e;exact h2⟩⟩
 .rw[<-hn,lT g.dis (mX a)];rfl
 have b:j<K.length:=by rw[iF]at d;exact d
 have f:K[j].names=l:=c _ (mX b) (by rw[Aw]at e;exact e);have hp:=List.pairwise_iff_getElem.1 g.dis;rcases Nat.lt_trichotomy j i with h3|h3|h3
 .exact absurd (by rw[Aw,Aw,hn,f]) (hp j i (by rw[iF];exact b) (by rw[iF];exact a) h3)
 .exact h3
 exact absurd (by rw[Aw,Aw,hn,f]) (hp i j (by rw[iF];exact a) (by rw[iF];exact b) h3)
theorem C7(b:eN K)(a:dy l=s)(hv:fp l):Dp (K.map tk) s=(dS K l).map tk:=by
 unfold Dp dS;rw[List.filter_map];congr 1;apply List.filter_congr;intro y hy;show decide (dy y.names≠s)=decide (y.names≠l);by_cases e:y.names=l
 .rw[e,a];simp
 have:dy y.names≠s:=λe2=>e (lU (b.val y hy).2.2 hv (e2.trans a.symm))
 simp[e,this]
theorem wS(a:K.Perm T)(l:List ByteArray):(dS K l).Perm (dS T l):=a.filter _
theorem Gv(f:eN T)(i:K.Perm T)(g:cA T l=some x)(h:x.dir=false)(d:ByteArray):(dS K l++[(⟨l,false,d⟩:pp)]).Perm (jl T l d):=by
 obtain⟨x1,x2⟩:=dI g;refine List.Perm.trans ((wS i l).append_right _) (nY _ _ ?_ ?_ (λy hy=>?_))
 .rw[qA,Rc];refine⟨f.dis.sublist (List.filter_sublist.map _),sI,λa ha b hb e=>?_⟩;simp at hb;obtain⟨y,hy,rfl⟩:=List.mem_map.1 ha;have:=(List.mem_filter.1 hy).2;simp at this;exact this (e.trans hb)
 .rw[ir,qf,pX f.dis g];unfold jl;rw[iF]
 unfold jl;rcases List.mem_append.1 hy with hy|hy
 .obtain⟨h1,h2⟩:=List.mem_filter.1 hy;have h2:y.names≠l:=by simpa using h2
  exact List.mem_map.2 ⟨y,h1,by rw[dj h2]⟩
 rw[IZ]at hy;subst hy;refine List.mem_map.2 ⟨x,x1,?_⟩;rw[dq x2];obtain⟨a,b,c⟩:=x;simp only at x2 h;rw[x2,h]
theorem mU.turn{sh:List cS}(h:mU n M T K d sh)(b:eN T')(a:mV T')(c:K'.Perm T'):mU n M T' K' d sh:=
 ⟨h.aw,b,a,c,h.cl,h.dn,h.s64,h.zer,h.near,h.cnt,h.cov⟩
theorem MV(h:mV T){f:List ByteArray->cS}(a:∀l,mV (f l))(s:ByteArray):mV (dz T f s):=by
 cases hp:cZ s with
 |none=>rw[iu hp];exact h
 |some l=>
  by_cases h0:l=[]
  .subst h0;rw[iV hp];exact h
  rw[eL hp h0];exact a l
theorem Gh(f:eN T)(c:K.Perm T){d:ByteArray}{r:Int}(hc:da (λl=>iG T l d) s=0)(g:mD (K.map tk) s r):
  ∃l,dy l=s/\fp l/\((r= -1/\(K++[(⟨l,false,d⟩:pp)]).Perm (dz T (λl=>ia T l d) s))\/∃i:Nat,r=(i:Int)/\(∀j (hj:j<(K.map tk).length),(K.map tk)[j].1=s↔j=i)/\(dS K l++[(⟨l,false,d⟩:pp)]).Perm (dz T (λl=>ia T l d) s)):=by
 obtain⟨l,h1,h2,h3,h4,h5⟩:=qU hc;have hK:=eN.perm f c.symm;have hl:=jB c hK.dis l;refine⟨l,h4,h5,?_⟩;rw[eL h1 h2];show _\/∃i:Nat,_/\_/\List.Perm _ (ia T l d)
 have e:ia T l d=match cA T l with
  |some _=>jl T l d
  |none=>T++[⟨l,false,d⟩]:=by unfold ia;rw[dj (λh=>h h3)];cases cA T l<;>rfl
 have a:=h3;rcases re hK h4 h5 g with⟨r1,r2⟩|⟨i,r1,r2,r3⟩
 .rw[hl]at r2;refine .inl ⟨r1,?_⟩;show List.Perm _ (ia T l d);rw[e,r2];exact c.append_right _
 rw[hl]at r2;obtain⟨x,hx⟩:=Option.isSome_iff_exists.1 r2
 have b:x.dir=false:=by
  unfold iG at a;split at a
  .cases a
  split at a
  .rename_i h;exact absurd a h
  rw[hx]at a;cases hd:x.dir
  .rfl
  .simp only[hd]at a;cases a
 refine .inr ⟨i,r1,r3,?_⟩;rw[e,hx];exact Gv f c hx b d
theorem Bm(e:eN T)(c:K.Perm T){r:Int}(hc:da (eY T) s=0)(f:mD (K.map tk) s r):
  ∃l,dy l=s/\r= -1/\(K++[(⟨l,true,⟨#[]⟩⟩:pp)]).Perm (dz T (ff T) s):=by
 obtain⟨l,h1,h2,h3,h4,h5⟩:=qU hc;have hK:=eN.perm e c.symm;have hl:=jB c hK.dis l
 have b:cA T l=none:=by
  have a:=h3;unfold eY at a
  cases hx:cA T l with
  |none=>rfl
  |some x=>
   rw[hx]at a;split at a
   .rename_i h;exact absurd a h
   simp at a
 refine⟨l,h4,?_,?_⟩
 .rcases re hK h4 h5 f with⟨r1,-⟩|⟨i,-,r2,-⟩
  .exact r1
  rw[hl,b]at r2;cases r2
 rw[eL h1 h2];unfold ff;rw[dj (λh=>h h3)];exact c.append_right _
theorem Ay(e:eN T)(c:K.Perm T){r:Int}(hc:da (dV T) s=0)(f:mD (K.map tk) s r):
  ∃l,dy l=s/\fp l/\∃i:Nat,r=(i:Int)/\(∀j (hj:j<(K.map tk).length),(K.map tk)[j].1=s↔j=i)/\(dS K l).Perm (dz T (d9 T) s):=by
 obtain⟨l,h1,h2,h3,h4,h5⟩:=qU hc;have hK:=eN.perm e c.symm;have hl:=jB c hK.dis l
 have b:cA T l≠none:=λhx=>by
  have a:=h3;unfold dV at a;rw[hx]at a;split at a
  .rename_i h;exact absurd a h
  simp at a
 refine⟨l,h4,h5,?_⟩;rcases re hK h4 h5 f with⟨-,r2⟩|⟨i,r1,-,r3⟩
 .rw[hl]at r2;exact absurd r2 b
 refine⟨i,r1,r3,?_⟩;rw[eL h1 h2];unfold d9;rw[dj (λh=>h h3)];exact wS c l
end
section
open Go.RowKit Go.Maps
variable {infos:List jR}
theorem gn.cut(h:gn w S ba bd N rb a0 a1 a2 a3 at_ seq chain sv br has infos T):gn w (λq=>S q/\q<w.heap.size) ba bd N rb a0 a1 a2 a3 at_ seq chain sv br has infos T:=by
 obtain⟨nb,mb,ht⟩:=h.tree;refine⟨h.tab,⟨h.kn.k0,h.kn.k1,h.kn.k2,h.kn.k3,⟨⟨h.kn.s.1,h.kn.k0.lt⟩,⟨h.kn.s.2.1,h.kn.k1.lt⟩,⟨h.kn.s.2.2.1,h.kn.k2.lt⟩,⟨h.kn.s.2.2.2,h.kn.k3.lt⟩⟩,h.kn.d⟩,h.inf,λq hq=>⟨h.infS q hq,(cr h.inf q hq).2⟩,⟨nb,mb,ht.exact.mono (λq hq=>?_)⟩,⟨h.sb,h.tab.lt⟩⟩;have h1:=ht.in_set hq;exact⟨⟨h1.1,M5 ht hq⟩,h1.2⟩
section
variable {w0 W W':World} {bw n i:Nat} {S:Nat->Nat->Prop} {x:lC} {st:jc} {M:fm} {T K:cS} {d:cX} {sh:List jb} {ks:List Int}
theorem eV.arcT(h:eV w0 W bw n i S x st M T K d sh ks)(f:gn W' (λg=>S 1 g\/W.heap.size<=g) x.ba x.bd x.N x.rb x.a0 x.a1 x.a2 x.a3 M.at_ (M.seq-1) M.chain x.sv false M.has M.infos T')(c:cq (S 1) W W'):
  ∃S',eV w0 W' bw n i S' x st M T' K d sh ks/\mG W bw S W' S':=by
 have b:=c.below (λq hq=>(h.fam.hi 1 q hq).1) h.below.size;have off:∀{k q},S k q->k≠1->¬S 1 q:=λhk a e=>a (h.fam.ap _ 1 _ hk e)
 have hf:=h.fam.put 1 (λq=>(S 1 q\/W.heap.size<=q)/\q<W'.heap.size) c.size h.below.size h.bwl (λq hq=>hq);refine⟨jV S 1 (λq=>(S 1 q\/W.heap.size<=q)/\q<W'.heap.size),⟨hf,h.below.trans b,h.bw0,?_,?_,?_,?_,?_,λy hy=>?_,?_,h.n4,h.nN,h.nk,h.nh,h.ns⟩,c.weak (λq hq=>.inr ⟨1,hq⟩),λk q hq=>?_⟩
 .rw[cH _ _ (by decide)];exact h.hs.on c (λq hq=>off hq dE) (λe=>(h.fam.hi 1 bw e).2.2 rfl)
 .rw[eu];exact f.cut
 .rw[cH _ _ (by decide)];exact h.dsk.on c (λq hq=>off hq dE)
 .rw[cH _ _ (by decide)];exact h.tree.on c (λq hq=>off (h.tree.2 q hq) dE)
 .rw[cH _ _ (by decide)];exact h.shr.on c (λq hq=>off (h.shr.2 q hq) dE)
 .rw[cH _ _ (by decide)];exact(h.sht y hy).on c (λq hq=>off ((h.sht y hy).2 q hq) dE)
 .rw[cH _ _ (by decide)];exact h.keep.on c (λq hq=>off (h.keep.2 q hq) dE)
 by_cases e:k=1
 .subst e;rw[eu]at hq;exact hq.1.imp (λe=>⟨1,e⟩) (λe=>e)
 rw[cH _ _ e]at hq;exact .inl ⟨k,hq⟩
theorem E4(e:Int)(bd ba:Nat)(c a b f h sv:Value)(vd:Bool):(fS (wR e bd ba c b f) h sv vd).setIfInBounds 3 a=fS (wR e bd ba a b f) h sv vd:=rfl
theorem eV.turn(h:eV w0 W bw n i S x st M T K d sh ks){C:Nat}(r:cq (S 4) W W9)(hv:ew W9 C v (K'.map tk))(p:∀q,v.ownBlock=some q->S 4 q\/W.heap.size<=q):
  W9.heap[bw]?=some (.cells (fS x.R x.tv x.ssv st.2.2) 37 (0,0))/\∃S',eV w0 (W9.setCell (yA bw 3) v) bw n i S' {x with trv:=v} st M T K' d sh ks/\mG W bw S (W9.setCell (yA bw 3) v) S':=by
 have g:=h.bwl;obtain⟨W6,b⟩:=eX (W9.setCell (yA bw 3) v);have f:W9.heap[bw]?=some (.cells (fS x.R x.tv x.ssv st.2.2) 37 (0,0)):=by rw[r.block bw g (λe=>(h.fam.hi 4 bw e).2.2 rfl)];exact h.hs.row
 refine⟨f,?_⟩;rw[<-b];have a:cq (λq=>q=bw\/S 4 q) W W6:=by rw[b];exact(r.weak (λq hq=>.inr hq)).setCell (yA bw 3) (.inl rfl) _
 have j:W6.heap.size=W9.heap.size:=by rw[b];simp
 have l:∀q,v.ownBlock=some q->q<W9.heap.size:=λq hq=>(cr hv q hq).2
 have o:∀q,v.ownBlock=some q->q≠bw:=λq hq e=>by
  rcases p q hq with e2|e2
  .exact(h.fam.hi 4 q e2).2.2 e
  .omega
 have hf:=h.fam.put 4 (λq=>v.ownBlock=some q) a.size h.below.size g (λq hq=>⟨p q hq,j▸l q hq⟩);have m:Below w0.heap.size W W6:=a.below (λq hq=>by rcases hq with e|e;exact(by have:=h.bw0;omega);exact(h.fam.hi 4 q e).1) h.below.size;refine⟨jV S 4 (λq=>v.ownBlock=some q),⟨hf,h.below.trans m,h.bw0,?_,?_,?_,?_,?_,λy hy=>?_,?_,h.n4,h.nN,h.nk,h.nh,h.ns⟩,a.weak (λq hq=>by rcases hq with e|e;exact .inl e;exact .inr ⟨4,e⟩),λk q hq=>?_⟩
 .rw[cH _ _ (by decide)];refine⟨?_,rfl,h.hs.nb,h.hs.txt.on a (λq hq=>h.fam.off (h.hs.txt.2 q hq) dE),h.hs.sum.on a (λq hq=>h.fam.off (h.hs.sum.2 q hq) dE),h.hs.ap,h.hs.len⟩;rw[b,gE W9 bw 3 _ _ _ f];exact Ce (λc=>some (Obj.cells c _ (0,0))) (E4 _ _ _ _ _ _ _ _ _ _)
 .rw[cH _ _ (by decide)];exact h.arc.on a (λq hq=>h.fam.off hq dE)
 .rw[cH _ _ (by decide)];exact h.dsk.on a (λq hq=>h.fam.off hq dE)
 .rw[eu];exact⟨cI (fq hv (fP _)) (λq hq=>b▸lq _ _ _ _ (o q hq)),λq hq=>hq⟩
 .rw[cH _ _ (by decide)];exact h.shr.on a (λq hq=>h.fam.off (h.shr.2 q hq) dE)
 .rw[cH _ _ (by decide)];exact(h.sht y hy).on a (λq hq=>h.fam.off ((h.sht y hy).2 q hq) dE)
 .rw[cH _ _ (by decide)];exact h.keep.on a (λq hq=>h.fam.off (h.keep.2 q hq) dE)
 by_cases e:k=4
 .subst e;rw[eu]at hq;exact(p q hq).imp (λe=>⟨4,e⟩) (λe=>e)
 rw[cH _ _ e]at hq;exact .inl ⟨k,hq⟩
theorem eV.item(h:eV w0 W bw n i S x st M T K d sh ks){y:pp}(c:W9.ownsRow 0 109 3 (.slice (yS g 0) ((K.map tk).length+1) cap) ((K.map tk).length+1) (gM (K.map tk)++[.string (dy y.names),.bool y.dir,.string y.data]))(f:(W.alloc O).grownBy W9 x.trv.ownBlock)(b:x.trv.ownBlock=some g\/g=W.heap.size+1):
  W9.heap[bw]?=some (.cells (fS x.R x.tv x.ssv st.2.2) 37 (0,0))/\∃S',eV w0 (W9.setCell (yA bw 3) (.slice (yS g 0) ((K.map tk).length+1) cap)) bw n i S' {x with trv:=.slice (yS g 0) ((K.map tk).length+1) cap} st M T (K++[y]) d sh ks/\mG W bw S (W9.setCell (yA bw 3) (.slice (yS g 0) ((K.map tk).length+1) cap)) S':=by
 have a:cq (λq=>x.trv.ownBlock=some q) W W9:=(cq.of_below ((dw W.heap.size W).alloc (cO _) _)).trans (cq.of_grown f (λq hq=>hq));refine h.turn (C:=0) (a.weak (λq hq=>h.tree.2 q hq)) ?_ (λq hq=>?_)
 .rw[qA,Cw];show W9.ownsRow 0 _ 3 _ (K.map tk++[tk y]).length (gM (K.map tk++[tk y]));rw[pi,ir,qf];exact c
 cases hq;rcases b with e|e
 .exact .inl (h.tree.2 g e)
 exact .inr (by show W.heap.size<=g;omega)
end
def DD(w0 W:World)(bw n i:Nat)(S:Nat->Nat->Prop)(st:jc)(M:fm)(Tn:cS)(d:cX)(sh:List jb)(ks:List Int)(e:Ending)(W':World):Prop:=
 e=.returned (.bool true)/\∃S' x' T' K',T'=Tn/\mG W bw S W' S'/\eV w0 W' bw n i S' x' st M T' K' d sh ks/\mU n M T' K' d (sh.map (·.T))
end
end Go.Proofs.YtapijhhmjjplmaaGreatDoor

import Derived.Test.YtapijhhmjjplmaaGreatDoorJonce48
namespace Go.Proofs.YtapijhhmjjplmaaGreatDoor
set_option linter.all false
set_option maxRecDepth 100000
set_option maxHeartbeats 4000000
open Go.Proofs.Tryz
variable {br:Bool}{infos:List jR}{has:List Ob}{ba bd N rb a0 a1 a2 a3 at_ seq chain:Nat}{S U:Nat→Prop}{T:cS}{sv:Value}{w:World}
section
open Go.RowKit Go.Maps
section
variable {w0 W:World} {a:Nat->Addr} {mx:Int} {bw i:Nat} {S:Nat->Nat->Prop} {x:lC} {st:jc} {sh:List jb} {ks:List Int}
theorem DC(c:Int)(g:Value)(b:Py w0 bw i S x st sh ks g)(d:∀V,AL w0 V bw i S x st sh ks->Calls prog 28 #[yP x.ba,.int .i64 c,.string ⟨#[]⟩,.int .i64 0] V λe V'=>∃v,e=.returned (.tuple #[v,.int .i64 0,.int .i64 (-1),.bool false])/\AL w0 V' bw i S x st sh ks/\cq (S 2) V V'/\V'.ownsRow V.heap.size 52 3 v 1 (eE [(fB,false,4)]))(f:∀V,AL w0 V bw i S x st sh ks->Calls prog 51 #[yP x.ba,.int .i64 c,.string fB] V λe V'=>e=.returned (.tuple #[.string dB,.int .i64 0,.int .i64 (-1)])/\AL w0 V' bw i S x st sh ks/\cq (S 2) V V')(h:AL w0 W bw i S x st sh ks):
  Calls prog 60 #[yP x.ba,.int .i64 c,g] W λe W'=>e=.returned (.bool true)/\AL w0 W' bw i S x st sh ks/\cq (S 2) W W':=by
 have HCT:Hid (∀V,AL w0 V bw i S x st sh ks->Calls prog 102 #[yP x.ba,.int .i64 c,.string ⟨#[]⟩,g,.int .i64 0] V λe W'=>e=.returned (.tuple #[.int .i64 1,.bool true])/\AL w0 W' bw i S x st sh ks/\cq (S 2) V W'):=λV hV=>Ks c g b d hV
 have HGT:=Hid.mk' f;obtain⟨gl,lc,rfl,-,-,-⟩:=ew.open (b W h) dE
 have HLV:Hid (∀V,AL w0 V bw i S x st sh ks->V.cell? (yA gl 0)=some (.string fB)/\V.cell? (yA gl 1)=some (.bool false)/\V.cell? (yA gl 2)=some (.string dB)):=λV hV=>by
  obtain⟨g2,c2,e2,-,-,hc⟩:=ew.open (b V hV) dE;have:gl=g2:=by injection e2 with e2;injection e2 with e2;injection e2
  subst this;exact hc 0 dE
 have HI:=hD h;have hse:(dB.toList==dB.toList)=true:=by rw[fI,jX rfl]
 clear b d f h;go_enter func60,ntmps60
 go_wp2_with fail
 go_loopw [7] (λiv_ wr=>((iv_=.int .i64 0/\wr=W)\/(iv_=.int .i64 1/\Hid (AL w0 wr bw i S x st sh ks/\cq (S 2) W wr)))) (λiv_ _=>1-(intOf iv_).toNat)
 .exact .inl ⟨rfl,rfl⟩
 obtain⟨rfl,rfl⟩|⟨rfl,HJ⟩:=hrel
 .obtain⟨l0,l1,l2⟩:=HLV.out _ HI.out
  go_wp2_with fail
  refine(HGT _ HI).mono ?_;rintro e w2 ⟨rfl,h2,hs2⟩;obtain⟨m0,m1,m2⟩:=HLV w2 h2;have HJ:Hid (AL w0 w2 bw i S x st sh ks/\cq (S 2) wr w2):=⟨h2,hs2⟩;clear h2 hs2 l0 l1 l2
  go_wp2_with fail
  go_roundw
  .exact .inr ⟨by go_num,HJ⟩
  exact mS
 go_wp2_with fail
 refine(HCT _ HJ.1).mono ?_;rintro e w2 ⟨rfl,h2,hs2⟩;have HJ2:Hid (AL w0 w2 bw i S x st sh ks/\cq (S 2) W w2):=⟨h2,HJ.2.trans hs2⟩;clear h2 hs2
 go_wp2_with fail
 go_ret;exact⟨rfl,HJ2⟩
end
end
section
open Go.RowKit Go.Maps
theorem Lw:T1.map tk=[(fB,false,dB)]:=kR
section
variable {w0 W:World} {a:Nat->Addr} {mx:Int} {bw i:Nat} {S:Nat->Nat->Prop} {x:lC} {st:jc} {sh:List jb} {ks:List Int}
theorem My:Py w0 bw i S x st sh ks x.trv:=λV hV=>by
 have h:=hV.tree.1;rw[Lw]at h;exact h
theorem Hn{y:jb}(b:y.T=T1):Py w0 bw i S x st [y] ks y.v:=λV hV=>by
 have h:=(hV.sht y sI).1;rw[b,Lw]at h;exact h
theorem Cs{y:jb}(h:AL w0 W bw i S x st [y] ks):∃gs cs,x.shv=.slice (yS gs 0) 1 cs/\∀V,AL w0 V bw i S x st [y] ks->V.cell? (yA bw 4)=some (.slice (yS gs 0) 1 cs)/\V.cell? (yA gs 0)=some y.v/\V.cell? (yA gs 1)=some (.string y.label)/\V.cell? (yA gs 2)=some (.string y.root):=by
 have ho:=h.shr.1;rcases ho.2 with⟨-,e⟩|⟨g,a,b,hv,-⟩
 .cases e
 refine⟨g,a,hv,λV hV=>?_⟩;have hc:=λj u hj=>PK hV.shr.1 (show x.shv.ownBlock=some g by rw[hv];rfl) j u hj
 refine⟨?_,hc 0 _ rfl,hc 1 _ rfl,hc 2 _ rfl⟩;rw[hV.cells.2.2.2.1,hv];rfl
theorem LN(b:eS w0 a mx)(j:fL w0)(y:jb)(c:y.T=T1)(d:y.label=xB)(f:y.root=o4)(h:AL w0 W bw i S x st [y] ks):
  Calls prog 36 #[yP bw] W λe W'=>e=.returned (.bool true)/\AL w0 W' bw i S x st [y] ks/\cq (S 2) W W':=by
 have HSN:=Hid.mk' (AM h);have HV:=Hid.mk' (λV (hV:AL w0 V bw i S x st [y] ks)=>E3 b j hV);have HH1:Hid (∀V,AL w0 V bw i S x st [y] ks->Calls prog 60 #[yP x.ba,.int .i64 1,y.v] V λe W'=>e=.returned (.bool true)/\AL w0 W' bw i S x st [y] ks/\cq (S 2) V W'):=λV hV=>DC 1 y.v (Hn c) (λV hV=>Hu b j hV) (λV hV=>JV b j hV) hV
 have HH0:Hid (∀V,AL w0 V bw i S x st [y] ks->Calls prog 60 #[yP x.ba,.int .i64 0,x.trv] V λe W'=>e=.returned (.bool true)/\AL w0 W' bw i S x st [y] ks/\cq (S 2) V W'):=λV hV=>DC 0 x.trv My (λV hV=>G1 b hV) (λV hV=>J1 b hV) hV
 obtain⟨gs,cs,hsv,hsh⟩:=Cs h;rw[d,f]at hsh;have HSH:=Hid.mk' hsh;have HCE:Hid (∀V,AL w0 V bw i S x st [y] ks->V.cell? (yA bw 2)=some (yP x.ba)/\V.cell? (yA bw 3)=some x.trv):=λV hV=>⟨hV.cells.2.1,hV.cells.2.2.1⟩
 have HNS:Hid (∀g,W.heap.size<=g->¬S 2 g):=λg hg e=>by have:=(h.fam.hi 2 g e).2.1;omega
 have HM:=Hid.mk' h;obtain⟨yv,hyv⟩:∃v,v=y.v:=⟨_,rfl⟩;obtain⟨tv,htv⟩:∃v,v=x.trv:=⟨_,rfl⟩;rw[<-hyv]at HH1 HSH;rw[<-htv]at HH0 HCE;have c2:=(HCE W h).1;clear b j c d f h hsv hsh hyv htv;go_enter func36,ntmps36
 go_wp2_with fail
 refine HSN.mono ?_;rintro e W1 ⟨gi,ci,rfl,hb1,-,f0,f1,f2,hgi,-⟩;have h1:=HM.on hb1;have HFI:Hid (∀V,cq (S 2) W1 V->V.cell? (yA gi 0)=some (.int .i64 1)/\V.cell? (yA gi 1)=some (.string xB)/\V.cell? (yA gi 2)=some (.string o4)):=λV hV=>⟨hV.cell (HNS gi hgi) f0,hV.cell (HNS gi hgi) f1,hV.cell (HNS gi hgi) f2⟩
 have HM1:=Hid.mk' h1;have HB1:Hid (cq (S 2) W W1):=cq.of_below hb1;obtain⟨s4,s0,s1,s2⟩:=HSH W1 h1;have c2:=(HCE W1 h1).1;clear f0 f1 f2 hgi h1 hb1 HM HSN HNS
 go_wp2_with fail
 go_loopw [4] (λiv_ wr=>((iv_=.int .i64 0/\wr=W1)\/(iv_=.int .i64 1/\Hid (AL w0 wr bw i S x st [y] ks/\cq (S 2) W wr)))) (λiv_ _=>1-(intOf iv_).toNat)
 .exact .inl ⟨rfl,rfl⟩
 obtain⟨rfl,rfl⟩|⟨rfl,HJ⟩:=hrel
 .have HH:=Hid.mk' (HH1 wr.drew (HM1.on ((dw _ _).drew)));have HXC:Hid (∀V2,AL w0 V2 bw i S x st [y] ks->cq (S 2) wr.drew V2->(V2.cell? (yA bw 2)=some (yP x.ba)/\V2.cell? (yA bw 4)=some (.slice (yS gs 0) 1 cs)/\V2.cell? (yA gs 0)=some yv)/\(V2.cell? (yA gs 1)=some (.string xB)/\V2.cell? (yA gs 2)=some (.string o4))/\(V2.cell? (yA gi 0)=some (.int .i64 1)/\V2.cell? (yA gi 1)=some (.string xB)/\V2.cell? (yA gi 2)=some (.string o4))/\cq (S 2) W V2):=λV2 h2 hs2=>by obtain⟨q1,q2,q3,q4⟩:=HSH V2 h2;have hs3:cq (S 2) wr V2:=((cq.refl (S 2) wr).drew).trans hs2;exact⟨⟨(HCE V2 h2).1,q1,q2⟩,⟨q3,q4⟩,HFI V2 hs3,HB1.trans hs3⟩
  go_wp2_with fail
  go_region_held3 (λw'=>w'.cell? (yA bw 2)=some (yP x.ba)/\w'.cell? (yA bw 4)=some (.slice (yS gs 0) 1 cs)/\w'.cell? (yA gs 0)=some yv) (((repeat' constructor)<;>first|assumption|(rw[nZ];assumption))) (first|(go_at_call 60;refine HH.mono ?_;rintro e V2 ⟨rfl,h2,hs2⟩;obtain⟨⟨r2,r4,r0⟩,⟨r5,r6⟩,⟨i0,i1,i2⟩,r7⟩:=HXC V2 h2 hs2;have HJ2:Hid (AL w0 V2 bw i S x st [y] ks/\cq (S 2) W V2):=⟨h2,r7⟩;clear h2 hs2 r7))
  clear HH HXC;have hx1:(xB.toList==xB.toList)=true:=by rw[fI,jX rfl]
  have hx2:(o4.toList==o4.toList)=true:=by rw[fI,jX rfl]
  go_wp2_with fail
  go_quiet (fail)
  go_wp2_with fail
  go_loopw [6] (λjv_ wi=>jv_=.int .i64 0/\Hid (AL w0 wi bw i S x st [y] ks/\cq (S 2) W wi)) (λ_ _=>0)
  .exact⟨rfl,HJ2.1.on ⟨rfl,rfl,rfl,cO _,λ_ _=>rfl⟩,HJ2.2.trans (cq.of_below ⟨rfl,rfl,rfl,cO _,λ_ _=>rfl⟩)⟩
  obtain⟨rfl,HJ3⟩:=hrel
  go_wp2_with fail
  go_roundw
  case rel=>
   first|exact .inr ⟨by go_num,HJ3⟩|((repeat apply Exists.intro);refine⟨?_,rfl⟩;exact .inr ⟨by go_num,HJ3⟩)
  exact mS
 have c2:=(HCE _ HJ.1).1
 go_wp2_with fail
 refine(HV _ HJ.1).mono ?_;rintro e V2 ⟨rfl,h2,hs2⟩;have HJ2:Hid (AL w0 V2 bw i S x st [y] ks/\cq (S 2) W V2):=⟨h2,HJ.2.trans hs2⟩;obtain⟨r2,r3⟩:=HCE V2 h2;have HH:=Hid.mk' (HH0 V2.drew (h2.on ((dw _ _).drew)));have HXC:Hid (∀V3,AL w0 V3 bw i S x st [y] ks->cq (S 2) V2.drew V3->(V3.cell? (yA bw 2)=some (yP x.ba)/\V3.cell? (yA bw 3)=some tv)/\cq (S 2) W V3):=λV3 h3 hs3=>⟨HCE V3 h3,HJ2.2.trans (((cq.refl (S 2) V2).drew).trans hs3)⟩
 clear h2 hs2 c2
 go_wp2_with fail
 go_region_held3 (λw'=>w'.cell? (yA bw 2)=some (yP x.ba)/\w'.cell? (yA bw 3)=some tv) (((repeat' constructor)<;>first|assumption|(rw[nZ];assumption))) (first|(go_at_call 60;refine HH.mono ?_;rintro e V3 ⟨rfl,h3,hs3⟩;obtain⟨⟨q2,q3⟩,q7⟩:=HXC V3 h3 hs3;have HJ3:Hid (AL w0 V3 bw i S x st [y] ks/\cq (S 2) W V3):=⟨h3,q7⟩;clear h3 hs3 q7))
 go_wp2_with fail
 go_ret;exact⟨rfl,HJ3⟩
end
end
section
open Go.RowKit Go.Maps
theorem CM(w0:World)(a:Nat->Addr)(mx:Int)(V0:eS w0 a mx)(W:World)(bw n i:Nat)(S:Nat->Nat->Prop)(x:lC)(st:jc)(M:fm)(T K:cS)(d:cX)(sh:List jb)(ks:List Int)(oa:Int)(s t:ByteArray)(h:eV w0 W bw n i S x st M T K d sh ks)(ho:mU n M T K d (sh.map (·.T)))(hs:s.size<=262144):
  Calls prog 31 #[yP bw,sV 3 oa s t] W λe W'=>DD w0 W bw n i S st M (dz T (ff T) s) d sh ks e W':=by
 obtain⟨W1,I⟩:=eX (W.alloc (.cells (pZ 3 oa s t) 40));have P:Below W.heap.size W W1:=by rw[I];exact(dw _ _).alloc (cO _) _
 obtain⟨b,hb⟩:=eX (W.heap.size);have Q:Ed W1 bw S b 3 oa s t:=by refine⟨by rw[I,hb];exact dM _ _,by have:=h.bwl;omega,λj hj=>by have:=(h.fam.hi j b hj).2.1;omega⟩
 have a1:=eN.perm ho.wf ho.perm.symm;obtain⟨kn,g⟩:=eX ((K.map tk).length);have ag:kn<=256:=by rw[g,iF];exact a1.len
 obtain⟨tp,tc,z⟩:=cQ h.tree.1;rw[<-g]at z;have h1:=h.on P;have aa:=Hid.mk' h1;have a3:Hid (mG W bw S W1 S):=.below P;have L:=Hid.mk' Q;have m:=Hid.mk' ho;have E:=Hid.mk' z;have a8:=Hid.mk' g;have a6:Hid (Calls prog 54 #[.slice tp kn tc,.string s] W1.drew λe w'=>∃r,e=.returned (.int .i64 r)/\mD (K.map tk) s r/\W1.drew=w'):=by rw[<-z];exact o8 0 _ _ s W1.drew (cI h1.tree.1 (λq hq=>rfl)) (by rw[<-g];omega)
 have X:Hid (∀V,Below W1.heap.size W1 V->Calls prog 27 #[yP x.ba,.string s] V λe V'=>NR w0 bw n i V S x st M (dz T (ff T) s) K d sh ks (da (eY T) s) e V'):=λV hV=>(h1.on hV).mkdir V0 ho.wf s hs
 obtain⟨c0,c2,c3⟩:=Q.cells;have d3:W1.cell? (yA bw 3)=some (.slice tp kn tc):=by rw[<-z];exact h1.cells.2.2.1
 have d2:=h1.cells.2.1;obtain⟨i0,Z,a7,a2,a9⟩:=Ba oG;have H:Hid (prog.info? 109=some i0/\i0.zero=some (.agg #[.string ⟨#[]⟩,.bool false,.string ⟨#[]⟩])/\i0.size=3/\i0.bytes=40):=⟨Z,a7,a2,a9⟩;clear h h1 ho hs Q a1 g z P V0 Z a7 a2 a9;go_enter func31,ntmps31
 go_wp2_with fail
 rw[<-I,<-hb];clear I hb
 go_region_held3 (λw'=>w'.cell? (yA bw 3)=some (.slice tp kn tc)/\w'.cell? (yA b 2)=some (.string s)) (((repeat' constructor)<;>first|assumption|(rw[nZ];assumption))) (first|(go_at_call 54;refine a6.mono ?_;rintro e V2 ⟨r,rfl,hr,rfl⟩;have HR:=Hid.mk' hr;clear hr))
 clear a6
 go_wp2_with fail
 have B:=Hid.mk' (X W1.drew.drew (((dw _ _).drew).drew));have a4:=Hid.mk' (a3.trans (.below (bw:=bw) (S:=S) (((dw W1.heap.size W1).drew).drew)));have p:=Hid.mk' (L.on (.below (((dw W1.heap.size W1).drew).drew)));obtain⟨c,hc⟩:=eX (da (eY T) s);obtain⟨T',U⟩:=eX (dz T (ff T) s);rw[<-hc,<-U]at B;have HC:=Hid.mk' hc;have v:=Hid.mk' U;clear hc U X
 go_region_held3 (λw'=>w'.cell? (yA bw 2)=some (yP x.ba)/\w'.cell? (yA b 2)=some (.string s)) (((repeat' constructor)<;>first|assumption|(rw[nZ];assumption)|(rw[nZ,nZ];assumption))) (first|(go_at_call 27;refine B.mono ?_;rintro e V3 ⟨rfl,S3,h3,C⟩;have A:=Hid.mk' h3;have F:=Hid.mk' (a4.trans C);have J:=Hid.mk' (p.on C);have b2:=(p.on C).cells.2.1;have b3:=(p.on C).cells.2.2;have w2:=h3.cells.2.1;have w3:V3.cell? (yA bw 3)=some (.slice tp kn tc):=(by rw[<-E.out];exact h3.cells.2.2.1);clear h3 C))
 clear B a4 p aa a3 L d2 d3 c0 c2 c3;by_cases G:c=0
 .obtain⟨l,hj,ab,hp⟩:=Bm m.wf m.perm (by rw[<-HC.out];exact G) HR;have a0:Hid (eN T'/\mV T'):=⟨by rw[v.out];exact EO m.wf s,by rw[v.out];exact MV m.k16 (λl=>m.k16.mkdir l) s⟩;rw[<-v.out]at hp;subst G;subst ab
  .have O:=Hid.mk' (m.turn a0.1 a0.2 hp);have ad:Hid (V3.ownsRow 0 109 3 (.slice tp kn tc) kn (gM (K.map tk))):=by rw[<-E.out,a8.out];exact A.tree.1
   have a5:Hid (∀g9 k W9,W9.ownsRow 0 109 3 (.slice (yS g9 0) (kn+1) k) (kn+1) (gM (K.map tk)++[.string s,.bool true,.string ⟨#[]⟩])->(V3.alloc (.cells #[.string s,.bool true,.string ⟨#[]⟩] 109)).drew.grownBy W9 (Value.ownBlock (.slice tp kn tc))->(Value.ownBlock (.slice tp kn tc)=some g9\/g9=V3.heap.size+1)->W9.cell? (yA bw 3)=some (.slice tp kn tc)/\W9.frozen? (yA bw 3)=false/\∀W6,W6=W9.setCell (yA bw 3) (.slice (yS g9 0) (kn+1) k)->DD w0 W bw n i S st M (dz T (ff T) s) d sh ks (.returned (.bool true)) W6):=by intro g9 k W9 q1 q2 q3;have g:=a8;rw[<-E.out]at q2 q3;rw[g,<-hj]at q1;obtain⟨r1,S6,r2,r3⟩:=A.item (y:=⟨l,true,⟨#[]⟩⟩) q1 (⟨q2.os,q2.tape,q2.output,q2.size,q2.block⟩:(V3.alloc (.cells #[.string s,.bool true,.string ⟨#[]⟩] 109)).grownBy W9 x.trv.ownBlock) q3;rw[<-g]at r2 r3;refine⟨by rw[cG r1,<-E.out];rfl,fH W9 bw 3 _ _ r1,λW6 ae=>?_⟩;rw[<-ae]at r2 r3;exact⟨rfl,S6,_,T',_,v,F.trans r3,r2,O⟩
   have aj:(V3.alloc (.cells #[.string s,.bool true,.string ⟨#[]⟩] 109)).cell? (yA bw 3)=some (.slice tp kn tc):=by rw[vY _ _ _ (by rw[w3];rfl)];exact w3
   have ai:(kn:Int)<=256:=oM;clear hp hj A F J O w2
   go_wp2_with fail
   go_region_law (first|(refine O8 _ rfl _ _ 32 rfl 0 109 i0 (.agg #[.string ⟨#[]⟩,.bool false,.string ⟨#[]⟩]) 3 40 NV H.1 H.2.1 H.2.2.1 H.2.2.2 rfl dE (.slice tp kn tc) kn (gM (K.map tk)) rfl (rI (w:=V3) ad _) (yA V3.heap.size 0) 1 1 [.string s,.bool true,.string ⟨#[]⟩] rfl rfl (λj u hj=>ip V3 _ _ _ _ j u hj) (by intro u hu;simp at hu;rcases hu with rfl|rfl|rfl<;>rfl) dE (by unfold maxLen;omega) oM oM (V3.heap.size+1) sI ?_;intro g9 k W9 N D Y ac;have o:=a5 g9 k W9 N D Y;have k3:=o.1;have f3:=o.2.1;have HG:=Hid.mk' (o.2.2 _ rfl);clear o N D Y ac))
   all_goals
    go_wp2
    go_ret;exact HG
 have af:Hid (T'=T):=by show _=_;rw[v.out];exact uZ (f:=eY T) (by rw[<-HC.out];exact G) (λl hl=>by unfold ff;rw[dq hl])
 have HG:Hid (DD w0 W bw n i S st M (dz T (ff T) s) d sh ks (.returned (.bool true)) V3):=⟨rfl,S3,x,T',K,v,F,A,by rw[af.out];exact m⟩;have ah:((c:Int)==0)=false:=by rw[tC];omega
 clear G A F J b2 b3 w2 w3
 go_wp2
 go_ret;exact HG
theorem wX(q n:Nat)(a:0<n):∃k:Nat,k<n/\(q:Int).tmod n=k/\k=q%n:=⟨q%n,IA _ a,by rw[Rq (by omega)];rfl,rfl⟩
def QV(c:Int)(n:Nat)(w:World)(e:Ending)(w':World):Prop:=∃k:Nat,k<n/\e=.returned (.int .i64 k)/\(0<=c->k=c.toNat%n)/\w=w'
theorem FP(c:Int)(n:Nat)(w:World)(hc:yD c)(i:0<n)(j:n<=1000000):
  Calls prog 33 #[.int .i64 c,.int .i64 n] w λe w'=>QV c n w e w':=by
 obtain⟨h1,h2⟩:=hc;have hz:((n:Int)==0)=false:=by simp;omega
 by_cases h0:c<0
 .have g:IntKind.i64.wrap (c+1)=c+1:=by rw[pH];omega
  obtain⟨q,hq⟩:∃q:Nat,-(c+1)=(q:Int):=⟨(-(c+1)).toNat,oM⟩;have f:(q:Int)<=9223372036854775807:=oM;obtain⟨k,a,hk,-⟩:=wX q n i;have d:IntKind.i64.wrap (k:Int)=k:=by rw[pH];omega
  go_enter func33,ntmps33
  go_wp2
  go_ret;exact⟨k,a,rfl,λh=>by omega,rfl⟩
 obtain⟨q,rfl⟩:∃q:Nat,c=(q:Int):=⟨c.toNat,oM⟩;obtain⟨k,a,hk,b⟩:=wX q n i;have d:IntKind.i64.wrap (k:Int)=k:=by rw[pH];omega
 clear b;go_enter func33,ntmps33
 go_wp2
 go_ret;refine⟨k,a,rfl,λ_=>?_,rfl⟩;have:(k:Int)=((q%n:Nat):Int):=by rw[<-hk,Rq (by omega)];rfl
 simpa using Int.ofNat.inj this
theorem gn.monoS(h:gn w S ba bd N rb a0 a1 a2 a3 at_ seq chain sv br has infos T)(a:∀q,S q->U q):gn w U ba bd N rb a0 a1 a2 a3 at_ seq chain sv br has infos T:=by
 obtain⟨nb,mb,ht⟩:=h.tree;exact⟨h.tab,h.kn.mono a,h.inf,λq hq=>a q (h.infS q hq),⟨nb,mb,ht.mono (λq hq=>⟨a q hq.1,hq.2⟩)⟩,a _ h.sb⟩
@[reducible] def wZ (sz:Int) (dv av:Value):Array Value:=#[.int .i64 sz,dv,av,.slice none 0 0,.slice none 0 0,.slice none 0 0,.slice none 0 0,.bool false,.slice none 0 0,.slice none 0 0,.bool false]
theorem lp(W:World)(bw bd:Nat)(c1:W.cell? (yA bw 1)=some (yP bd)):
  Calls prog 20 #[yP bw] W λe W'=>e=.returned (.bool true)/\W=W':=by
 go_enter func20,ntmps20
 go_wp2
 go_ret;exact⟨rfl,rfl⟩
def QX(w0 W:World)(bw k:Nat)(e:Ending)(W':World):Prop:=
 e=.returned (.bool true)/\∃S x,eV w0 W' bw (4+k) 0 S x ([],[],false) (M0 (4+k)) [] [] (d0 (4+k) true) [] []/\cq (·=bw) W W'
def Q1(w0 W:World)(bw k:Nat)(e:Ending)(W':World):Prop:=
 ∃ba,e=.returned (.tuple #[yP ba,.int .i64 0])/\W'.cell? (yA bw 2)=some (.pointer none)/\W'.frozen? (yA bw 2)=false/\QX w0 W bw k (.returned (.bool true)) (W'.setCell (yA bw 2) (yP ba))
theorem Il(n:Nat)(a:0<n):cX.fresh n=d0 n false:=by unfold cX.fresh d0;rw[sk n a]
theorem ED(w0:World)(a:Nat->Addr)(K:jm w0 a)(L:fL w0)(W V:World)(bw k bd m:Nat)(J:Int)(F:Nat->Prop)(X:k<512)(E:Below w0.heap.size w0 V)(G:w0.heap.size<=bw)(H:cq (·=bw) W V)(I:V.heap[bw]?=some (.cells (wZ J (yP bd) (.pointer none)) 37 (0,0)))(O:bw<W.heap.size)(P:cD V F bd m (d0 (4+k) true))(Q:m<=800000)(D:∀g,F g->W.heap.size<=g/\g<V.heap.size):
  Calls prog 26 #[yP bd] V λe W'=>Q1 w0 W bw k e W':=by
 have hn:4<=4+k:=oM;have z:w0.heap.size<=W.heap.size:=oM
 have hc:=qb w0 a K bd m (4+k) F (d0 (4+k) true) V P E (λg hg=>by have:=(D g hg).1;omega) hn (by omega) (oy _ _ (by omega)) (MG _ _ (by omega)) (by rw[xS];exact ze _ _) (λV' r=>L.on (E.trans (r.below (λg hg=>by have:=(D g hg).1;omega) E.size))) (yL _ _) rfl Q (λg hg=>(D g hg).2) (·=M0 (4+k)) rfl (by
   have hz:(df (d0 (4+k) true))[(M0 (4+k)).at_]?=some z64:=by rw[xS];exact l6 (4+k) true 1 (by decide) (by omega)
   rintro M rfl
   exact⟨.inl hz,λk' t c I=>by rw[AQ hz]at I;cases I⟩) (by rw[xl _ hn];exact .inl rfl) (by rw[xl _ hn,xS];exact λi h1 h2=>l6 _ _ i (by exact h1) h2)
 rw[xl _ hn]at hc;refine hc.mono ?_;rintro e W' ⟨hs,ba,B,N,rb,a0,a1,a2,a3,sv,m',rfl,C,v,hN,-,p,hA⟩;have u:=cm I;have o:¬F bw:=λe=>by have:=(D bw e).1;omega
 have n:W'.heap[bw]?=some (.cells (wZ J (yP bd) (.pointer none)) 37 (0,0)):=by rw[hs.block bw u o];exact I
 refine⟨ba,rfl,cG n,fH W' bw 2 _ _ n,rfl,?_⟩;obtain⟨W6,f⟩:=eX (W'.setCell (yA bw 2) (yP ba));rw[<-f];have h:cq (·=bw) W' W6:=by rw[f];exact(cq.refl (·=bw) W').setCell (yA bw 2) rfl _
 have A:W6.heap.size=W'.heap.size:=by rw[f];simp
 have s:W6.heap[bw]?=some (.cells (wZ J (yP bd) (yP ba)) 37 (0,0)):=by rw[f,gE W' bw 2 _ _ _ n];rfl
 have b:∀(ty:TypeId)(kk:Nat)(U:Nat->Prop),eP W6 U ty kk (.slice none 0 0) 0 []:=λty kk U=>⟨LR _ _ _ _,λg hg=>by cases hg⟩
 have x:=H.size;have w:=hs.size
 let S:Nat->Nat->Prop:=λj q=>(j=1/\V.heap.size<=q/\q<B)\/(j=2/\up F B q/\q<W'.heap.size)
 have l:yJ w0 W6 bw S:=by
  refine⟨λj q hq=>?_,λi j q hi hj=>?_⟩
  .rcases hq with⟨-,h1,h2⟩|⟨-,h1|h1,h2⟩
   .exact⟨oM,oM,oM⟩
   .have:=D q h1;exact⟨oM,oM,oM⟩
   exact⟨oM,oM,oM⟩
  rcases hi with⟨e1,e2,e3⟩|⟨e1,e2,e3⟩<;>rcases hj with⟨f1,f2,f3⟩|⟨f1,f2,f3⟩
  .omega
  .rcases f2 with f2|f2
   .have:=(D q f2).2;omega
   .omega
  .rcases e2 with e2|e2
   .have:=(D q e2).2;omega
   .omega
  .omega
 have d:Below w0.heap.size w0 W6:=(E.trans (hs.below (λg hg=>by have:=(D g hg).1;omega) E.size)).trans (h.below (λg hg=>hg▸G) (by have:=E.size;omega));refine⟨S,⟨J,bd,ba,N,rb,a0,a1,a2,a3,sv,.slice none 0 0,.slice none 0 0,.slice none 0 0,.slice none 0 0,.slice none 0 0⟩,⟨l,d,G,⟨s,rfl,λe=>(l.hi 3 bw e).2.2 rfl,b _ _ _,b _ _ _,λq hq=>(by cases hq),rfl⟩,?_,?_,b _ _ _,b _ _ _,λy hy=>(by cases hy),b _ _ _,oM,by have:N<=1:=hN;show N<=100000;omega,cO _,fP _,cO _⟩,?_⟩
 .have h9:=hA.on h (λg hg e=>by rw[e]at hg;omega);exact gn.monoS h9 (λq hq=>.inl ⟨rfl,hq.1,hq.2⟩)
 .have h9:=(p.zero rfl).tight;exact(h9.on h (λg hg e=>by rw[e]at hg;rcases hg.1 with e2|e2;exact o e2;omega)).mono (λq hq=>.inr ⟨rfl,hq.1,hq.2⟩)
 exact(j7 H hs (λq hq=>.inr (D q hq).1)).trans h
def Qk(sh:List jb)(K:cS)(v:Value):Prop:=∃o:Bool,v=.bool o/\(o=true->Pw sh K)
theorem Mr(w0:World)(a:Nat->Addr)(S0:jm w0 a)(T0:fL w0)(W:World)(bw n i:Nat)(S:Nat->Nat->Prop)(x:lC)(st:jc)(M:fm)(T K:cS)(d:cX)(sh:List jb)(ks:List Int)(label:ByteArray)(h:eV w0 W bw n i S x st M T K d sh ks)(ho:mU n M T K d (sh.map (·.T)))(hl:label.size<=300000)(hi:i<=70000):
  Calls prog 21 #[yP bw,.string label] W λe W'=>Rt w0 W bw n i S T K ks e W':=by
 have ab:=eN.perm ho.wf ho.perm.symm;obtain⟨m,hm⟩:=eX (sh.length);obtain⟨so,sc,b⟩:=cQ h.shr.1;rw[<-hm]at b;obtain⟨kn,ad⟩:=eX ((K.map tk).length);obtain⟨tp,tc,D⟩:=cQ h.tree.1;rw[<-ad]at D;have w:Hid (∀V,Below W.heap.size W V->V.cell? (yA bw 4)=some (.slice so m sc)/\V.cell? (yA bw 3)=some (.slice tp kn tc)):=λV hb=>by have h2:=(h.on hb).cells;rw[<-b,<-D];exact⟨h2.2.2.2.1,h2.2.2.1⟩
 have Q:Hid (∀j,j<m->∃g y vo vn vc L,so=some (yA g 0)/\sc=y/\Hid (∀V,Below W.heap.size W V->V.cell? (yA g (j*3))=some (.slice vo vn vc)/\Calls prog 37 #[.slice vo vn vc,.slice tp kn tc] V λe w'=>OH V L (K.map tk) e w')/\Hid (tQ L (K.map tk)->Pw sh K)):=λj hj=>by
  rw[hm]at hj;obtain⟨g,y,hv,aA,hc⟩:=I5 h.shr oM;have a7:=b;rw[hv,hm]at a7;have e1:some ((yA g 0):Addr)=so:=by injection a7
  have e2:y=sc:=by injection a7
  have hy:=h.sht sh[j] (mX hj);obtain⟨vo,vc,ak⟩:=cQ hy.1;refine⟨g,y,vo,(sh[j].T.map tk).length,vc,sh[j].T.map tk,e1.symm,e2.symm,λV hb=>⟨?_,?_⟩,λha=>⟨sh[j],mX hj,ha⟩⟩
  .rw[hb.cell aA,hc j hj,<-ak]
  rw[<-ak,<-D];refine JW 0 0 _ _ _ _ V (cI hy.1 (λq hq=>hb.block q (cr hy.1 q hq).2)) (cI h.tree.1 (λq hq=>hb.block q (cr h.tree.1 q hq).2)) ?_ ?_
  .rw[iF];have:=(ho.cov sh[j].T (Nu (mX hj))).1.len;omega
  rw[iF];have:=ab.len;omega
 have aI:=Hid.mk' b;have HM:Hid (∀V,Below W.heap.size W V->eV w0 V bw n i S x st M T K d sh ks):=λV hb=>h.on hb
 have C:=Hid.mk' ho;have X:=Hid.mk' S0;have aH:=Hid.mk' T0;have an:Hid (label.size<=300000/\i<=70000):=⟨hl,hi⟩;have aQ:m<=70000:=by have:=h.ns;omega
 have aL:(m:Int)<=70000:=oM;have a8:=Hid.mk' hm;clear h ho hl hi S0 T0 ab b D ad hm;go_enter func21,ntmps21
 go_wp2
 go_loopw [5,6] (λov iv wr=>∃j:Nat,j<=m/\iv=.int .i64 j/\Hid (Qk sh K ov/\Below W.heap.size W wr)) (λ_ iv _=>m-(intOf iv).toNat)
 .exact⟨0,fP _,rfl,⟨false,rfl,λh=>by cases h⟩,dw _ _⟩
 obtain⟨j,hj,rfl,HJ⟩:=hrel;obtain⟨o,ap,G⟩:=HJ.out.1;subst ap;have HO:=hD G;have HB:=Hid.mk' HJ.out.2;clear G HJ;obtain⟨c4,c3⟩:=w.out wr HB.out;by_cases a0:j<m
 .have aB:(j:Int)<m:=oM;obtain⟨g,y,vo,vn,vc,L,rfl,rfl,HV,aj⟩:=Q.out j a0;obtain⟨cv,-⟩:=HV.out wr HB.out
  go_wp2_with fail
  go_region_held3 (λw'=>w'.cell? (yA bw 4)=some (.slice (yS g 0) m sc)/\w'.cell? (yA bw 3)=some (.slice tp kn tc)/\w'.cell? (yA g (j*3))=some (.slice vo vn vc)) (((repeat' constructor)<;>first|assumption|(rw[nZ];assumption))) (first|(go_at_call 37;refine((HV.out _ HB.out.drew).2).mono ?_;rintro e V2 ⟨r,rfl,hr,ai⟩;have HR:Hid (r=true->Pw sh K):=λe=>aj.out (hr e);have A:=Hid.mk' ((HB.out.drew).trans (ai.mono HB.out.drew.size));have e4:=(w.out V2 A.out).1;have e3:=(w.out V2 A.out).2;have ev:=(HV.out V2 A.out).1;clear hr ai))
  all_goals
   clear HV aj w Q c4 c3 cv;cases o<;>cases r
   all_goals
    go_wp2
    go_roundw
    .exact⟨j+1,oM,by go_num,⟨_,rfl,by first|exact HR.out|exact HO.out⟩,A.out⟩
    exact mS
 have aB:¬(j:Int)<m:=oM;have au:j=m:=oM;subst au;have HU:Hid (Calls prog 38 #[yP bw] wr λe W'=>QY w0 wr bw n i S x st M T K d sh ks e W'):=(HM.out wr HB.out).used X.out C.out;clear Q w c3
 go_wp2_with (refine HU.out.mono ?_)
 rintro e V2 ⟨va,rfl,am,h2,a4⟩;clear HU c4;obtain⟨u,hu⟩:=eX (eJ d.safe n);have z:=Hid.mk' hu;rw[<-hu];clear hu;obtain⟨ao,ac,rfl⟩:=cQ a4;have c4:V2.cell? (yA bw 4)=some (.slice so j sc):=by rw[<-aI.out];exact h2.cells.2.2.2.1
 have af:Hid (Calls prog 30 #[yP bw,.string label] V2 λe W'=>e=.returned (.bool true)/\Lk w0 V2 bw n i S T K d sh ks W'):=(LI w0 a X.out aH.out V2 bw n i S x st M T K d sh ks label h2 C.out an.out.1 an.out.2).mono (λe W' hr=>hr.mid C.out);have O:=Hid.mk' a4;have a9:=Hid.mk' am;have aC:=Hid.mk' h2;clear a4 am h2
 go_wp2_with (refine af.out.mono ?_)
 rintro e V3 ⟨rfl,S3,x3,aD,M3,d3,a1,aa,h3,Z,I,N⟩;clear af c4;have HU:=hD (h3.used X.out Z);have c:=Hid.mk' aa;have H:=Hid.mk' Z;have al:=Hid.mk' I;have t:=Hid.mk' N;clear aa Z I N h3
 go_wp2_with (refine HU.out.mono ?_)
 rintro e V4 ⟨vb,rfl,Y,h4,P⟩;clear HU;obtain⟨u2,a6⟩:∃u,u=eJ d3.safe n:=⟨_,rfl⟩;have a5:=Hid.mk' a6;rw[<-a6];clear a6;obtain⟨bo,bc,rfl⟩:=cQ P
 have J:Hid (V4.ownsRow wr.heap.size 9 1 (.slice ao n ac) n (em d.safe)):=by
  have ah:=(HM.out wr HB.out).fam;have aJ:=(HM.out wr HB.out).bwl;have ae:∀q,Value.ownBlock (.slice ao n ac)=some q->wr.heap.size<=q/\q<V2.heap.size:=λq hq=>cr O.out q hq
  have ag:∀k q,Value.ownBlock (.slice ao n ac)=some q->¬S k q:=λk q hq hk=>by have:=(ah.hi k q hk).2.1;have:=(ae q hq).1;omega
  refine cI O.out (λq hq=>?_);have az:=ae q hq;rw[Y.same.block q (by have:=c.out.same.size;omega) (λe=>?_),c.out.same.block q az.2 (λe=>?_)]
  .rcases e with e|⟨k,e⟩
   .omega
   .exact ag k q hq e
  rcases e with e|⟨k,e⟩
  .omega
  .rcases c.out.new k q e with⟨k2,e2⟩|e2
   .exact ag k2 q hq e2
   .omega
 have f:Hid (∀j,j<n->∃ga gb s s',ao=some (yA ga 0)/\bo=some (yA gb 0)/\V4.cell? (yA ga j)=some (.string s)/\V4.cell? (yA gb j)=some (.string s')/\ga<V4.heap.size/\gb<V4.heap.size/\(j<u->s=s')):=λj hj=>by
  obtain⟨ga,ca,e1,e2⟩:=CY J.out C.out.dn oM;obtain⟨gb,cb,f1,f2⟩:=CY P H.out.dn oM;have ea:ao=some (yA ga 0):=by injection e1
  have eb:bo=some (yA gb 0):=by injection f1
  exact⟨ga,gb,_,_,ea,eb,e2 j hj,f2 j hj,pr (e2 j hj),pr (f2 j hj),λaG=>(al.out j (by rw[<-z.out];exact aG)).symm⟩
 have a2:Hid (∀V,Below V4.heap.size V4 V->Rt w0 W bw n i S T K ks (.returned (.bool true)) V/\∃B E,V.cell? (yA bw 4)=some (.slice B a1.length E)):=λV hV=>by
  refine⟨⟨rfl,S3,x3,aD,M3,d3,a1,?_,h4.on hV,H.out⟩,?_⟩
  .exact((((mG.below HB.out).trans a9.out).trans c.out).trans Y).trans (.below hV)
  obtain⟨B,E,aE⟩:=cQ h4.shr.1;exact⟨B,E,by rw[<-aE];exact(h4.on hV).cells.2.2.2.1⟩
 have aP:=h4.n4;have aR:(n:Int)<=4096:=oM;clear Y h4 P J O a9 aC c HM
 go_wp2_with fail
 go_loopw [14] (λiv aF=>∃k:Nat,k<=n/\iv=.int .i64 k/\Hid (Below V4.heap.size V4 aF)) (λiv _=>n-(intOf iv).toNat)
 .exact⟨0,fP _,rfl,dw _ _⟩
 obtain⟨k,hk,rfl,l⟩:=hrel;by_cases a0:k<n
 .have av:(k:Int)<n:=oM;obtain⟨ga,gb,s,s',rfl,rfl,e1,e2,e3,e4,e5⟩:=f.out k a0;have q1:wr.cell? (yA ga k)=some (.string s):=by rw[l.out.cell e3];exact e1
  have q2:wr.cell? (yA gb k)=some (.string s'):=by rw[l.out.cell e4];exact e2
  by_cases v:k<u
  .have hd:decide ((k:Int)<(u:Int))=true:=jX oM;have ax:decide (k<u)=true:=jX v;have ar:=e5 v;subst ar;have ay:=fI s s;rw[jX rfl]at ay;clear e1 e2 e3 e4 e5 v f;go_upto_region 16 with fail
   go_quiet (fail)
   go_wp2
   go_roundw
   .exact⟨k+1,oM,by go_num,cR l.out _⟩
   exact mS
  have hd:decide ((k:Int)<(u:Int))=false:=lW oM;have ax:decide (k<u)=false:=lW v;clear e1 e2 e3 e4 e5 v f;go_upto_region 16 with fail
  go_quiet (fail)
  go_wp2
  go_roundw
  .exact⟨k+1,oM,by go_num,cR l.out _⟩
  exact mS
 have av:¬(k:Int)<n:=oM;obtain⟨U,B,E,d4⟩:=a2.out wr l.out;have a3:=Hid.mk' U;obtain⟨m3,p⟩:=eX (a1.length);rw[<-p]at d4;rcases t.out with⟨g1,g2⟩|⟨g1,g2⟩
 .have F:m3=j:=by rw[p,g1,<-a8.out]
  have aq:u2=u:=by rw[a5.out,z.out,g2]
  subst F;subst aq;clear p g1 g2 U a2 f t
  go_wp2
  go_ret;exact a3.out
 have F:m3=j+1:=by rw[p,g1,<-a8.out]
 have aN:((m3:Int)==(j:Int))=false:=by rw[tC];omega
 have HG:Hid (o=true->u2<=u+3/\u<u2):=λe=>by rw[a5.out,z.out];exact g2 (HO.out e)
 have aM:u<=4096/\u2<=4096:=by have h1:=oD d.safe n;have h2:=oD d3.safe n;have h3:=z.out;have h4:=a5.out;omega
 clear p g1 g2 U a2 f t;cases o
 .clear F
  go_wp2
  go_ret;exact a3.out
 obtain⟨g3,g4⟩:=HG.out rfl;have hw:IntKind.i64.wrap ((u2:Int)-(u:Int))=(u2:Int)-(u:Int):=by rw[pH];omega
 have aK:decide ((u2:Int)-(u:Int)<=3)=true:=by simp;omega
 have aO:decide ((u:Int)<(u2:Int))=true:=by simp;omega
 clear F
 go_wp2
 go_ret;exact a3.out
def RF(bw kn tc:Nat)(tp:Option Addr)(P:World->Prop)(e:Ending)(V4:World):Prop:=∃vo vn vc,e=.returned (.slice vo vn vc)/\V4.cell? (yA bw 3)=some (.slice tp kn tc)/\V4.frozen? (yA bw 3)=false/\P (V4.setCell (yA bw 3) (.slice vo vn vc))
theorem Aa(w0:World)(a:Nat->Addr)(mx:Int)(V0:eS w0 a mx)(W:World)(bw n i:Nat)(S:Nat->Nat->Prop)(x:lC)(st:jc)(M:fm)(T K:cS)(d:cX)(sh:List jb)(ks:List Int)(oa:Int)(s t:ByteArray)(h:eV w0 W bw n i S x st M T K d sh ks)(ho:mU n M T K d (sh.map (·.T)))(hs:s.size<=262144):
  Calls prog 31 #[yP bw,sV 4 oa s t] W λe W'=>DD w0 W bw n i S st M (dz T (d9 T) s) d sh ks e W':=by
 obtain⟨W1,D⟩:=eX (W.alloc (.cells (pZ 4 oa s t) 40));have J:Below W.heap.size W W1:=by rw[D];exact(dw _ _).alloc (cO _) _
 obtain⟨b,hb⟩:=eX (W.heap.size);have L:Ed W1 bw S b 4 oa s t:=by refine⟨by rw[D,hb];exact dM _ _,by have:=h.bwl;omega,λj hj=>by have:=(h.fam.hi j b hj).2.1;omega⟩
 have U:=eN.perm ho.wf ho.perm.symm;obtain⟨kn,y⟩:=eX ((K.map tk).length);have a8:kn<=256:=by rw[y,iF];exact U.len
 obtain⟨tp,tc,o⟩:=cQ h.tree.1;rw[<-y]at o;have h1:=h.on J;have a4:=Hid.mk' h1;have Y:Hid (mG W bw S W1 S):=.below J;have G:=Hid.mk' L;have g:=Hid.mk' ho;have I:=Hid.mk' o;have aa:=Hid.mk' y;have a0:Hid (Calls prog 54 #[.slice tp kn tc,.string s] W1.drew λe w'=>∃r,e=.returned (.int .i64 r)/\mD (K.map tk) s r/\W1.drew=w'):=by rw[<-o];exact o8 0 _ _ s W1.drew (cI h1.tree.1 (λq hq=>rfl)) (by rw[<-y];omega)
 have O:Hid (∀V,Below W1.heap.size W1 V->Calls prog 56 #[yP x.ba,.string s] V λe V'=>NR w0 bw n i V S x st M (dz T (d9 T) s) K d sh ks (da (dV T) s) e V'):=λV hV=>(h1.on hV).remove V0 ho.wf s hs
 obtain⟨c0,c2,c3⟩:=L.cells;have d3:W1.cell? (yA bw 3)=some (.slice tp kn tc):=by rw[<-o];exact h1.cells.2.2.1
 have d2:=h1.cells.2.1;obtain⟨i0,P,a1,X,a2⟩:=Ba oG;have ab:Hid (prog.info? 109=some i0/\i0.zero=some (.agg #[.string ⟨#[]⟩,.bool false,.string ⟨#[]⟩])/\i0.size=3/\i0.bytes=40):=⟨P,a1,X,a2⟩;clear h h1 ho hs L U y o J V0 P a1 X a2;go_enter func31,ntmps31
 go_wp2_with fail
 rw[<-D,<-hb];clear D hb
 go_region_held3 (λw'=>w'.cell? (yA bw 3)=some (.slice tp kn tc)/\w'.cell? (yA b 2)=some (.string s)) (((repeat' constructor)<;>first|assumption|(rw[nZ];assumption))) (first|(go_at_call 54;refine a0.mono ?_;rintro e V2 ⟨r,rfl,hr,rfl⟩;have HR:=Hid.mk' hr;clear hr))
 clear a0
 go_wp2_with fail
 have u:=Hid.mk' (O W1.drew.drew (((dw _ _).drew).drew));have Z:=Hid.mk' (Y.trans (.below (bw:=bw) (S:=S) (((dw W1.heap.size W1).drew).drew)));have k:=Hid.mk' (G.on (.below (((dw W1.heap.size W1).drew).drew)));obtain⟨c,hc⟩:=eX (da (dV T) s);obtain⟨T',N⟩:=eX (dz T (d9 T) s);rw[<-hc,<-N]at u;have HC:=Hid.mk' hc;have m:=Hid.mk' N;clear hc N O
 go_region_held3 (λw'=>w'.cell? (yA bw 2)=some (yP x.ba)/\w'.cell? (yA b 2)=some (.string s)) (((repeat' constructor)<;>first|assumption|(rw[nZ];assumption)|(rw[nZ,nZ];assumption))) (first|(go_at_call 56;refine u.mono ?_;rintro e V3 ⟨rfl,S3,h3,w⟩;have p:=Hid.mk' h3;have z:=Hid.mk' (Z.trans w);have E:=Hid.mk' (k.on w);have b2:=(k.on w).cells.2.1;have b3:=(k.on w).cells.2.2;have w2:=h3.cells.2.1;have w3:V3.cell? (yA bw 3)=some (.slice tp kn tc):=(by rw[<-I.out];exact h3.cells.2.2.1);clear h3 w))
 clear u Z k a4 Y G d2 d3 c0 c2 c3;by_cases B:c=0
 .obtain⟨l,hj,hv,j,a5,F,hp⟩:=Ay g.wf g.perm (by rw[<-HC.out];exact B) HR;have Q:Hid (eN T'/\mV T'):=⟨by rw[m.out];exact CI g.wf s,by rw[m.out];exact MV g.k16 (λl=>g.k16.remove l) s⟩;rw[<-m.out]at hp;subst B;subst a5;have H:=Hid.mk' (g.turn Q.1 Q.2 hp);have a3:Hid (Calls prog 55 #[.slice tp kn tc,.int .i64 j] V3 λe V4=>RF bw kn tc tp (DD w0 W bw n i S st M (dz T (d9 T) s) d sh ks (.returned (.bool true))) e V4):=by have hK:=eN.perm g.wf g.perm.symm;rw[<-I.out];refine(xh 0 x.trv (K.map tk) j s V3 p.tree.1 (by rw[iF];have:=hK.len;omega) F).mono ?_;rintro e V4 ⟨v',rfl,A,a6⟩;rw[C7 hK hj hv]at A;obtain⟨r1,S6,r2,r3⟩:=p.turn (K':=dS K l) (v:=v') (W9:=V4) (C:=V3.heap.size) (cq.of_below a6) A (λq hq=>.inr (cr A q hq).1);obtain⟨vo,vc,rfl⟩:=cQ A;refine⟨vo,_,vc,rfl,by rw[cG r1,<-I.out];rfl,fH V4 bw 3 _ _ r1,?_⟩;exact⟨rfl,S6,_,T',_,m,z.trans r3,r2,H⟩
  have ac:¬(j:Int)<0:=oM;clear hp hj hv F p z E H w2
  go_wp2_with (refine a3.mono ?_)
  rintro e V4 ⟨vo,vn,vc,rfl,k3,f3,hg⟩;have HG:=Hid.mk' hg;clear hg a3
  go_wp2
  go_ret;exact HG
 have a7:Hid (T'=T):=by show _=_;rw[m.out];exact uZ (f:=dV T) (by rw[<-HC.out];exact B) (λl hl=>by unfold d9;rw[dq hl])
 have HG:Hid (DD w0 W bw n i S st M (dz T (d9 T) s) d sh ks (.returned (.bool true)) V3):=⟨rfl,S3,x,T',K,m,z,p,by rw[a7.out];exact g⟩;have a9:((c:Int)==0)=false:=by rw[tC];omega
 clear B p z E b2 b3 w2 w3
 go_wp2
 go_ret;exact HG
end
end Go.Proofs.YtapijhhmjjplmaaGreatDoor

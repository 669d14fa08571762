import Derived.Test.YtapijhhmjjplmaaGreatDoorJonce3
import Derived.Test.YtapijhhmjjplmaaGreatDoorJonce4
import Derived.Test.YtapijhhmjjplmaaGreatDoorJonce9
import Derived.Test.YtapijhhmjjplmaaGreatDoorRows
namespace Go.Proofs.YtapijhhmjjplmaaGreatDoor
set_option linter.all false
set_option maxRecDepth 100000
set_option maxHeartbeats 4000000
open Go.Proofs.Tryz
variable {ad:Addr}{cs:Array Value}{text:List UInt8}{B g fuel bl n:Nat}{a:Nat→Addr}{P:Program}{v:Value}{w w' W:World}
section
open Go.RowKit Go.Extern.Stop Go.Stop Go.Extern
abbrev rv(a:Addr):Value:=.iface 458 (.pointer (some a))
structure jm (w:World) (a:Nat->Addr):Prop where
 v0:w.cell? ⟨0,0,none⟩=some (rv (a 0))
 v1:w.cell? ⟨1,0,none⟩=some (rv (a 1))
 v2:w.cell? ⟨2,0,none⟩=some (rv (a 2))
 v3:w.cell? ⟨3,0,none⟩=some (rv (a 3))
 v4:w.cell? ⟨4,0,none⟩=some (rv (a 4))
 v5:w.cell? ⟨5,0,none⟩=some (rv (a 5))
 v6:w.cell? ⟨6,0,none⟩=some (rv (a 6))
 v7:w.cell? ⟨7,0,none⟩=some (rv (a 7))
 v8:w.cell? ⟨8,0,none⟩=some (rv (a 8))
 v9:w.cell? ⟨9,0,none⟩=some (rv (a 9))
 v10:w.cell? ⟨10,0,none⟩=some (rv (a 10))
 v11:w.cell? ⟨11,0,none⟩=some (rv (a 11))
 row:∀j,j<12->∃c t,w.heap[(a j).block]?=some (.cells c t (0,0))
 text:∀j,j<12->∃s:ByteArray,w.cell? (a j)=some (.string s)/\0<s.size/\s.size<1000
 inj:∀i j,i<12->j<12->i≠j->a i≠a j
 ty:w.cell? ⟨12,0,none⟩=some (.iface 333 (.agg #[.pointer (some ⟨18,92,none⟩)]))
theorem gI{p:Addr}(h:w.cell? p=some v):p.block<w.heap.size:=by
 rcases Fc p.block w.heap.size with h'|h'
 .exact h'
 simp[World.cell?,Pj h']at h
theorem gZ(b:Below B w w'){p:Addr}(h:w.cell? p=some v)(c:p.block<B):w'.cell? p=some v:=by
 rw[b.cell c];exact h
theorem jm.on(h:jm w a)(b:Below w.heap.size w w'):jm w' a where
 v0:=gZ b h.v0 (gI h.v0)
 v1:=gZ b h.v1 (gI h.v1)
 v2:=gZ b h.v2 (gI h.v2)
 v3:=gZ b h.v3 (gI h.v3)
 v4:=gZ b h.v4 (gI h.v4)
 v5:=gZ b h.v5 (gI h.v5)
 v6:=gZ b h.v6 (gI h.v6)
 v7:=gZ b h.v7 (gI h.v7)
 v8:=gZ b h.v8 (gI h.v8)
 v9:=gZ b h.v9 (gI h.v9)
 v10:=gZ b h.v10 (gI h.v10)
 v11:=gZ b h.v11 (gI h.v11)
 row:=λj hj=>by obtain⟨c,t,hc⟩:=h.row j hj;obtain⟨s,hs,_⟩:=h.text j hj;exact⟨c,t,by rw[b.block _ (gI hs)];exact hc⟩
 text:=λj hj=>by obtain⟨s,hs,h1,h2⟩:=h.text j hj;exact⟨s,gZ b hs (gI hs),h1,h2⟩
 inj:=h.inj
 ty:=gZ b h.ty (gI h.ty)
def J8(a:Nat->Addr):Array Value:=#[rv (a 0),rv (a 1),rv (a 2),rv (a 3),rv (a 4),rv (a 5),rv (a 6),rv (a 7),rv (a 8),rv (a 9),rv (a 10),rv (a 11)]
theorem Br(a:Nat->Addr)(j:Nat)(b:j<12):(J8 a)[j]?=some (rv (a j)):=by
 match j,b with
 |0,_=>rfl
 |1,_=>rfl
 |2,_=>rfl
 |3,_=>rfl
 |4,_=>rfl
 |5,_=>rfl
 |6,_=>rfl
 |7,_=>rfl
 |8,_=>rfl
 |9,_=>rfl
 |10,_=>rfl
 |11,_=>rfl
theorem Ir(e t:Addr)(w:World)(b:w.cell? ⟨12,0,none⟩=some (.iface 333 (.agg #[.pointer (some ⟨18,92,none⟩)]))):
  Calls prog 79 #[.iface 458 (.pointer (some e)),.iface 164 (.pointer (some t))] w λev w'=>ev=.returned (.bool false)/\Below w.heap.size w w':=by
 refine(IQ e t w b).mono λev w' ⟨he,hw⟩=>?_
 subst hw;exact⟨he,(((dw _ _).alloc oM _).alloc sI _).alloc (by simp;omega) _⟩
theorem AV(k:Nat)(s:k<12)(a:Nat->Addr)(w:World)(S:jm w a):
  Calls prog 43 #[rv (a k)] w λe w'=>e=.returned (.tuple #[.int .i64 ((k:Int)+1),.int .i64 (-1)])/\Below w.heap.size w w':=by
 have q0:=S.v0;have q1:=S.v1;have q2:=S.v2;have q3:=S.v3;have q4:=S.v4;have q5:=S.v5;have q6:=S.v6;have q7:=S.v7;have q8:=S.v8;have q9:=S.v9;have p:=S.v10;have q:=S.v11;go_enter func43,ntmps43
 go_wp2
 go_loopw [4,24] (λn i wr=>∃m:Nat,m<=12/\i=.int .i64 m/\(m<=k/\n=.int .i64 0\/k<m/\n=.int .i64 ((k:Int)+1))/\Below w.heap.size w wr/\w.heap.size<wr.heap.size/\∀j,j<12->wr.cell? (yA w.heap.size j)=some (rv (a j)))
  (λ_ i _=>12-(intOf i).toNat)
 case atStart=>
  refine⟨0,oM,rfl,.inl ⟨oM,rfl⟩,(dw _ _).alloc oM _,sI,λj hj=>?_⟩;rw[World.cell?_alloc_at _ _ _ _ rfl];exact Br a j hj
 obtain⟨m,hm,rfl,hn,hb,c,hc⟩:=hrel;by_cases b:m<12
 .have r:=hc m b;by_cases d:m=k
  .subst d
   obtain⟨_,rfl⟩:m<=m/\u4=.int .i64 0:=by
    rcases hn with h|h
    .exact h
    .omega
   clear hn
   go_wp2_with (go_at_call 78;refine(IK _ _).mono ?_;rintro e w' ⟨rfl,rfl⟩)
   go_roundw
   .exact⟨m+1,oM,by go_num,.inr ⟨oM,rfl⟩,hb,c,hc⟩
   simp[intOf];omega
  obtain⟨c1,t1,l⟩:=(S.on hb).row k s;obtain⟨c2,t2,o⟩:=(S.on hb).row m b;have f:=S.inj k m s b (zq d)
  go_wp2_with (go_at_call 78;refine(Ij (a k) (a m) c1 c2 t1 t2 _ f l o).mono ?_;rintro e w' ⟨rfl,rfl⟩)
  go_roundw
  case rel=>
   refine⟨m+1,oM,by go_num,?_,hb,c,hc⟩;rcases hn with h|h
   .exact .inl ⟨oM,h.2⟩
   exact .inr ⟨oM,h.2⟩
  simp[intOf];omega
 obtain⟨_,rfl⟩:k<m/\u4=.int .i64 ((k:Int)+1):=by
  rcases hn with h|h
  .omega
  .exact h
 clear hn hc;have g:=((S.on hb).on ((dw _ _).alloc oM (.cells #[.pointer none] 162))).ty;have hz:((k:Int)+1==0)=false:=by simp;omega
 go_wp2_with (go_at_call 79;refine(Ir _ _ _ g).mono ?_;rintro e w' ⟨rfl,hw⟩)
 go_ret2;refine⟨rfl,hb.trans ?_⟩;exact(((dw wr.heap.size wr).alloc (cO _) _).trans (hw.mono sI)).mono oM
end
section
open Go.ChangeShapes Go.WideShapes Go.RowKit
theorem zG  :∀{l:List (String×DataW Unit)}{ps:List MemPlace},DataW.LaidVars P W l ps->ps.Nodup->
  ∃pl:Nat->List MemPlace,(∀j (h:j<l.length),∃g t cs fuel,P.globalNamed l[j].1=some g/\(P.globals[g]?).map (·.type)=some t/\W.var? P l[j].1=some cs/\
   DataW.trod (λ_=>()) P W 0 (λ_=>true) false fuel t cs.toList=some (l[j].2,pl j)/\∀x∈MemPlace.row (yA g 0) cs.size++pl j,x∈ps)/\
   ∀i j,i<j->j<l.length->∀x∈pl i,x∉pl j
 |[],ps,_,_=>⟨λ_=>[],λj h=>absurd h (KE _),λi j _ h=>absurd h (KE _)⟩
 |(n,d)::r,ps,h,hnd=>by
  obtain⟨g,t,cs,fuel,p,q,hg,ht,hv,hd,hr,e⟩:=h;subst e;have o:q.Nodup:=(List.nodup_append.1 hnd).2.1;obtain⟨pl,h1,h2⟩:=zG hr o;have f:∀j,j<r.length->∀x∈pl j,x∈q:=λj hj x hx=>by obtain⟨g',t',k,a,_,_,_,_,m⟩:=h1 j hj;exact m x (P4 _ hx)
  refine⟨λj=>match j with|0=>p|j+1=>pl j,?_,?_⟩
  .intro j hj
   match j,hj with
   |0,_=>exact⟨g,t,cs,fuel,hg,ht,hv,hd,λx hx=>P8 _ hx⟩
   |j+1,hj=>
    obtain⟨g',t',k,a,a1,a2,a3,a4,a5⟩:=h1 j (Pz hj);exact⟨g',t',k,a,a1,a2,a3,a4,λx hx=>P4 _ (a5 x hx)⟩
  intro i j b hj x hx c
  match i,j,b,hj with
  |0,j+1,_,hj=>
   have:=f j (Pz hj) x c;exact(List.nodup_append.1 hnd).2.2 x (P4 _ hx) x this rfl
  |i+1,j+1,b,hj=>exact h2 i j (Pz b) (Pz hj) x hx c
theorem On: "*"++ "errors.errorString"= "*errors.errorString":=dE
theorem Qs(u:TypeId)(h:prog.typeName? 3 u=some "*errors.errorString"):u=458:=
 typeName_ptr_named (nm:= "errors.errorString") (by rw[On];kernel_rfl) kR dE u (On▸h)
theorem LW:prog.cellsOf 476=1:=kR
theorem Mx:prog.cellsOf 9=1:=kR
theorem Kk{n:String}{p ps:List MemPlace}{t:TypeId}(k:prog.globalNamed n=some g)(m:(prog.globals[g]?).map (·.type)=some 92)(j:(prog.globals[g]?).map (·.type)=some t)(hv:W.var? prog n=some cs)(o:DataW.trod (λ_=>()) prog W 0 (λ_=>true) false fuel t cs.toList=some (.iface "*errors.errorString" (.ptr (.agg [.lit (.string text)])),p))(i:∀x∈MemPlace.row (yA g 0) cs.size++p,x∈ps)(h:∀b off,MemPlace.cell b off∈ps->(∃c t,W.heap[b]?=some (.cells c t (0,0)))/\∀u v,W.cell? (yA b off)=some (.iface u v)->Value.okWide prog W .any 0 u v):
  ∃a s,W.cell? (yA g 0)=some (rv a)/\W.cell? a=some (.string s)/\s.size=text.length/\(∃c t,W.heap[a.block]?=some (.cells c t (0,0)))/\p=[.cell a.block a.off]:=by
 obtain rfl:=kM (m.symm.trans j);obtain⟨l⟩:=cs
 have ok:∀u v,l=[.iface u v]->Value.okWide prog W .any 0 u v:=λu v e=>by
  subst e;have d:MemPlace.cell g 0∈ps:=i (MemPlace.cell g 0) (P8 _ (by simp[MemPlace.row]));have f:W.cell? (yA g 0)=some (.iface u v):=by have:=P0 k hv 0;simpa using this
  exact(h g 0 d).2 u v f
 obtain⟨a,s,rfl,hc,hs,_,rfl⟩:=errorString_of_trod Nq Qs OW underlying476 rfl rfl xV LW Mx o ok;refine⟨a,s,by simpa using P0 k hv 0,hc,?_,(h a.block a.off (i _ (by simp[MemPlace.row]))).1,by simp[MemPlace.row]⟩;rw[<-hs,gf,PG]
def gK:List (String×List UInt8):=[("keepsake/keepsake.ErrArg",[97,110,32,97,114,103,117,109,101,110,116,32,116,104,97,116,32,109,97,121,32,110,111,116,32,98,101]),("keepsake/keepsake.ErrDown",[116,104,101,32,100,105,115,107,32,105,115,32,100,111,119,110]),("keepsake/keepsake.ErrFormat",[110,111,32,97,114,99,104,105,118,101,32,105,115,32,116,104,101,114,101]),("keepsake/keepsake.ErrCorrupt",[100,97,109,97,103,101]),("keepsake/keepsake.ErrPath",[97,32,112,97,116,104,32,116,104,97,116,32,109,97,121,32,110,111,116,32,98,101]),("keepsake/keepsake.ErrNone",[105,116,32,105,115,32,110,111,116,32,116,104,101,114,101]),("keepsake/keepsake.ErrKind",[105,116,32,105,115,32,111,102,32,116,104,101,32,111,116,104,101,114,32,107,105,110,100]),("keepsake/keepsake.ErrAgain",[105,116,32,105,115,32,116,104,101,114,101,32,97,108,114,101,97,100,121]),("keepsake/keepsake.ErrBusy",[105,116,32,105,115,32,110,111,116,32,101,109,112,116,121]),("keepsake/keepsake.ErrMany",[110,111,32,114,111,111,109,32,105,110,32,97,32,100,105,114,101,99,116,111,114,121]),("keepsake/keepsake.ErrBig",[116,111,111,32,109,97,110,121,32,98,121,116,101,115]),("keepsake/keepsake.ErrFull",[116,104,101,32,100,105,115,107,32,105,115,32,102,117,108,108])]
theorem RJ:∀j,(h:j<gK.length)->∃g,prog.globalNamed gK[j].1=some g/\(prog.globals[g]?).map (·.type)=some 92/\g=[0,1,2,3,4,5,6,7,8,9,10,11].getD j 0
 |0,_=>⟨0,kR,kR,rfl⟩
 |1,_=>⟨1,kR,kR,rfl⟩
 |2,_=>⟨2,kR,kR,rfl⟩
 |3,_=>⟨3,kR,kR,rfl⟩
 |4,_=>⟨4,kR,kR,rfl⟩
 |5,_=>⟨5,kR,kR,rfl⟩
 |6,_=>⟨6,kR,kR,rfl⟩
 |7,_=>⟨7,kR,kR,rfl⟩
 |8,_=>⟨8,kR,kR,rfl⟩
 |9,_=>⟨9,kR,kR,rfl⟩
 |10,_=>⟨10,kR,kR,rfl⟩
 |11,_=>⟨11,kR,kR,rfl⟩
 |j+12,h=>absurd h (by simp[gK])
theorem JR:∀j,(h:j<gK.length)->0<gK[j].2.length/\gK[j].2.length<1000:=dE
def K9(x:String×List UInt8):String×DataW Unit:=(x.1,.iface "*errors.errorString" (.ptr (.agg [.lit (.string x.2)])))
theorem et:prog.globalNamed "errors.errorType"=some 12:=kR
theorem rt:(prog.cutTypes.find? (·.1== "internal/reflectlite.rtype")).map (·.2)=some 333:=kR
theorem Lq:((List.range 487).filter λt=>prog.rowNamed t [101,114,114,111,114])=[92]:=kR
theorem Oq:prog.types.size=487:=kR
theorem Fm{c:List (String×DataW Unit)}(h:handlesMet prog c W)(b:("errors.errorType",.iface "internal/reflectlite.rtype" (.agg [.ptr (.lit (.string [101,114,114,111,114]))]))∈c):
  W.cell? ⟨12,0,none⟩=some (.iface 333 (.agg #[.pointer (some ⟨18,92,none⟩)])):=by
 obtain⟨a,u,ty,e1,e2,e3,e4,e5⟩:=h _ b;have en:a=[101,114,114,111,114]:=(kM e1).symm;subst en;obtain rfl:=kM (rt.symm.trans e2);have b:ty∈(List.range 487).filter λt=>prog.rowNamed t [101,114,114,111,114]:=List.mem_filter.2 ⟨List.mem_range.2 (by rw[<-Oq];exact e3),e4⟩
 rw[Lq]at b;obtain rfl:=List.mem_singleton.1 b;have hh:typeHandle prog 92=.pointer (some ⟨18,92,none⟩):=kR;rw[hh]at e5;simpa using P0 et e5 0
theorem Ju{l:List (String×DataW Unit)}(r:Nat->Nat)(u:∀j,(h:j<gK.length)->∃h':r j<l.length,l[r j]=K9 gK[j])(v:∀i j,i<j->r i<r j)(w:laidMet prog l W)(x:W.cell? ⟨12,0,none⟩=some (.iface 333 (.agg #[.pointer (some ⟨18,92,none⟩)]))):∃a,jm W a:=by
 obtain⟨ps,hl,o,f⟩:=w;obtain⟨pl,h1,h2⟩:=zG hl o;have p:∀j,(h:j<gK.length)->∃a s,W.cell? ⟨[0,1,2,3,4,5,6,7,8,9,10,11].getD j 0,0,none⟩=some (rv a)/\W.cell? a=some (.string s)/\s.size=gK[j].2.length/\(∃c t,W.heap[a.block]?=some (.cells c t (0,0)))/\pl (r j)=[.cell a.block a.off]:=by intro j hj;obtain⟨hp,he⟩:=u j hj;obtain⟨g,t,cs,q,a1,a2,a3,a4,a5⟩:=h1 (r j) hp;obtain⟨g',b1,b2,b3⟩:=RJ j hj;rw[he]at a1 a3 a4;obtain rfl:=kM (b1.symm.trans a1);rw[<-b3];exact Kk b1 b2 a2 a3 a4 a5 f
 have d:gK.length=12:=rfl
 have m:∀j,∃a:Addr,(h:j<gK.length)->∃s,W.cell? ⟨[0,1,2,3,4,5,6,7,8,9,10,11].getD j 0,0,none⟩=some (rv a)/\W.cell? a=some (.string s)/\s.size=gK[j].2.length/\(∃c t,W.heap[a.block]?=some (.cells c t (0,0)))/\pl (r j)=[.cell a.block a.off]:=by
  intro j;by_cases h:j<gK.length
  .obtain⟨a,s,hs⟩:=p j h;exact⟨a,λ_=>⟨s,hs⟩⟩
  exact⟨⟨0,0,none⟩,λh'=>absurd h' h⟩
 obtain⟨a,b⟩:=Classical.axiomOfChoice m;refine⟨a,?_⟩
 exact{
  v0:=(b 0 dE).choose_spec.1
  v1:=(b 1 dE).choose_spec.1
  v2:=(b 2 dE).choose_spec.1
  v3:=(b 3 dE).choose_spec.1
  v4:=(b 4 dE).choose_spec.1
  v5:=(b 5 dE).choose_spec.1
  v6:=(b 6 dE).choose_spec.1
  v7:=(b 7 dE).choose_spec.1
  v8:=(b 8 dE).choose_spec.1
  v9:=(b 9 dE).choose_spec.1
  v10:=(b 10 dE).choose_spec.1
  v11:=(b 11 dE).choose_spec.1
  row:=λj hj=>(b j (d▸hj)).choose_spec.2.2.2.1
  text:=λj hj=>by obtain⟨s,_,hs,hz,_,_⟩:=b j (d▸hj);have:=JR j (d▸hj);exact⟨s,hs,oM,oM⟩
  inj:=λi j hi hj n e=>by
   obtain⟨s,_,_,_,_,hp⟩:=b i (d▸hi);obtain⟨s',_,_,_,_,k⟩:=b j (d▸hj);rw[e]at hp;rcases Nat.lt_or_gt_of_ne n with h|h
   .exact h2 _ _ (v i j h) (u j (d▸hj)).1 _ (hp▸List.mem_singleton.2 rfl) (k▸List.mem_singleton.2 rfl)
   exact h2 _ _ (v j i h) (u i (d▸hi)).1 _ (k▸List.mem_singleton.2 rfl) (hp▸List.mem_singleton.2 rfl)
  ty:=x}
end
section
open Go.ChangeShapes Go.WideShapes Go.RowKit Go.Deep
structure FB where
 kind:Int
 a:Int
 s:ByteArray
 t:ByteArray
structure xc (w:World) (bl o:Nat) (x:FB):Prop where
 c0:w.cell? (yA bl o)=some (.int .i64 x.kind)
 c1:w.cell? (yA bl (o+1))=some (.int .i64 x.a)
 c2:w.cell? (yA bl (o+2))=some (.string x.s)
 c3:w.cell? (yA bl (o+3))=some (.string x.t)
 rk:yD x.kind
 ra:yD x.a
 ns:x.s.size<=140737488351232
 nt:x.t.size<=140737488351232
def IP(w:World)(v:Value)(l:List FB):Prop:=
 (∃ao cap,v=.slice ao 0 cap/\l=[])\/∃bl off cap,v=.slice (yS bl off) l.length cap/\0<l.length/\l.length<=140737488351232/\∀i (h:i<l.length),xc w bl (off+i*4) l[i]
theorem xc.on{o:Nat}{x:FB}(h:xc w bl o x)(a:Below B w w')(b:bl<B):xc w' bl o x:=
 ⟨by rw[a.cell (by exact b)];exact h.c0,by rw[a.cell (by exact b)];exact h.c1,by rw[a.cell (by exact b)];exact h.c2,by rw[a.cell (by exact b)];exact h.c3,h.rk,h.ra,h.ns,h.nt⟩
theorem y8:prog.cellsOf 40=4:=kR
theorem Gs:prog.bytesOf 40=48:=kR
section
variable {H:Type} {enc:TypeId×Value->H} {W:World} {sp:Nat->Bool} {held:Bool}
theorem N4{a:List Value}(h:a.length=4):∃c0 c1 c4 c5,a=[c0,c1,c4,c5]:=by
 match a,h with
 |[c0,c1,c4,c5],_=>exact⟨c0,c1,c4,c5,rfl⟩
theorem F7{l:List Value}{D:DataW H}{p:List MemPlace}(i:W.cells? 0 ad 4=some l)(h:DataW.trod enc prog W 0 sp held n 40 l=some (D,p))(k:(D.weights prog 40).all (·<=reachBytes)=true):
  ∃x,xc W ad.block ad.off x/\ad.spot=none:=by
 obtain⟨bl,o,a⟩:=ad;obtain⟨xs,m,_,hx,hl,b,hf⟩:=DataW.trod_struct underlying40 h;rw[y8]at hl;obtain⟨c0,c1,c4,c5,rfl⟩:=N4 hl
 match xs,b with
 |[y0,y1,y4,y5],_=>
  have f0:DataW.trod enc prog W 0 sp held m 3 [c0]=some y0:=by simpa [yT]using hf 0 _ rfl
  have f1:DataW.trod enc prog W 0 sp held m 3 [c1]=some y1:=by simpa [yT]using hf 1 _ rfl
  have f4:DataW.trod enc prog W 0 sp held m 9 [c4]=some y4:=by simpa [wK]using hf 2 _ rfl
  have f5:DataW.trod enc prog W 0 sp held m 9 [c5]=some y5:=by simpa [wK]using hf 3 _ rfl
  obtain⟨k0,e0,-,w0⟩:=P9 NK f0;obtain⟨k1,e1,-,w1⟩:=P9 NK f1;obtain⟨s4,e4,g4,-⟩:=DataW.trod_string xV f4;obtain⟨s5,e5,g5,-⟩:=DataW.trod_string xV f5;simp only[List.cons.injEq,and_true]at e0 e1 e4 e5;subst e0 e1 e4 e5;simp only[P1]at hx;have f:DataW.weights prog 40 D=DataW.weightsEach prog [3,3,9,9] [y0.1,y1.1,y4.1,y5.1]:=by rw[hx.1];simp[DataW.weights,underlying40]
  rw[f]at k;have e:s4.size<=140737488351232:=by have:=List.all_eq_true.1 k s4.data.toList.length (Qf (j:=2) (t:=9) (d:=y4.1) rfl rfl _ (by rw[g4];simp[DataW.weights]));rw[gf,PG]at this;exact FE this
  have g:s5.size<=140737488351232:=by have:=List.all_eq_true.1 k s5.data.toList.length (Qf (j:=3) (t:=9) (d:=y5.1) rfl rfl _ (by rw[g5];simp[DataW.weights]));rw[gf,PG]at this;exact FE this
  have hc:∀j,j<4->W.cell? (Addr.add ⟨bl,o,a⟩ j)=[Value.int .i64 k0,.int .i64 k1,.string s4,.string s5][j]?:=by intro j hj;have h6:=i;unfold World.cells? at h6;rw[dq (fP _)]at h6;have:=mapM_some_get h6 j j (List.getElem?_range hj);exact this
  have c:a=none:=by
   have h0:=hc 0 oM
   cases a with
   |none=>rfl
   |some q=>
    exfalso;unfold World.cell? at h0;split at h0
    .simp[Addr.add]at h0
    cases h0
  subst c;refine⟨⟨k0,k1,s4,s5⟩,⟨?_,?_,?_,?_,GT w0,GT w1,e,g⟩,rfl⟩
  .exact hc 0 oM
  .exact hc 1 oM
  .exact hc 2 oM
  exact hc 3 oM
theorem xU{d:DataW H}{p:List MemPlace}(h:DataW.trod enc prog W 0 sp held fuel 27 v.cells.toList=some (d,p))(hv:∃ao len cap,v=.slice ao len cap)(E:(d.weights prog 27).all (·<=reachBytes)=true):∃l,IP W v l:=by
 obtain⟨ao,len,cap,rfl⟩:=hv;rcases open_slice underlying27 h with⟨h0,_⟩|⟨a,y,z,m,n,D,Pl,h0,_,A,_,hm,hx,s⟩
 .simp[Value.cells]at h0;obtain⟨rfl,rfl,rfl⟩:=h0;exact⟨[],.inl ⟨_,_,rfl,rfl⟩⟩
 simp[Value.cells]at h0;obtain⟨rfl,rfl,rfl⟩:=h0;simp only[P1]at hx;have B:len<=m:=by rw[hm];split<;>omega
 have c:=E;rw[hx.1]at c;simp only[DataW.weights,underlying27,List.all_cons,List.all_append,Dj]at c;obtain⟨bl,off,e⟩:=a
 have j:∀i,i<len->((D i).weights prog 40).all (·<=reachBytes)=true:=by
  intro i hi;refine List.all_eq_true.2 λn hn=>List.all_eq_true.1 c.2.1 n ?_
  have b:D i∈(List.range len).map D:=List.mem_map.2 ⟨i,List.mem_range.2 hi,rfl⟩;generalize (List.range len).map D=L at b;clear c E hx
  induction L with
  |nil=>cases b
  |cons x r ih=>
   simp only[DataW.weightsAll,Q7];rcases List.mem_cons.1 b with h1|h1
   .exact .inl (h1▸hn)
   exact .inr (ih h1)
 have g:∀i,∃x:FB,i<len->xc W bl (off+i*4) x/\(i=0->e=none):=by
  intro i;by_cases hi:i<len
  .obtain⟨C,o,t⟩:=s i oM;rw[y8]at o;obtain⟨x,k,u⟩:=F7 o t (j i hi);refine⟨x,λ_=>⟨?_,λh0=>?_⟩⟩
   .have e1:(Addr.add ⟨bl,off,e⟩ (i*4)).block=bl:=by unfold Addr.add;split<;>rfl
    have e2:(Addr.add ⟨bl,off,e⟩ (i*4)).off=off+i*4:=by
     unfold Addr.add;split
     .rename_i h;rw[h];rfl
     .rfl
    rw[e1,e2]at k;exact k
   subst h0;exact u
  exact⟨⟨0,0,ByteArray.empty,ByteArray.empty⟩,λh=>absurd h hi⟩
 obtain⟨X,hX⟩:=Classical.axiomOfChoice g;have f:len<=140737488351232:=by have h1:=FE c.1;rw[Gs,iF,NS]at h1;unfold reachBytes at h1;omega
 by_cases h0:len=0
 .subst h0;exact⟨[],.inl ⟨_,_,rfl,rfl⟩⟩
 have q:e=none:=(hX 0 oM).2 rfl;subst q;refine⟨(List.range len).map X,.inr ⟨bl,off,cap,sI,by rw[iF,NS];omega,by simpa using f,λi hi=>?_⟩⟩;have w:i<len:=by simpa using hi
 rw[Aw,Qu];exact(hX i w).1
end
def oX(l:List FB):Nat:=(l.map λx=>x.s.size+x.t.size).sum
theorem BF(l:List FB)(i:Nat)(h:i<l.length):oX (l.take (i+1))=oX (l.take i)+(l[i].s.size+l[i].t.size):=by
 unfold oX;rw[sN h,qA,NT];simp
def Nh(l:List FB)(w:World)(e:Ending)(w':World):Prop:=∃r:Bool,e=.returned (.bool r)/\(r=true->l.length+oX l<=65536)/\Below w.heap.size w w'
theorem Jc(v:Value)(l:List FB)(w:World)(z:IP w v l):
  Calls prog 16 #[v] w λe w'=>Nh l w e w':=by
 rcases z with⟨ao,k,rfl,rfl⟩|⟨bl,off,k,rfl,c,j,b⟩
 .go_enter func16,ntmps16
  go_wp2
  go_loop [4] (λi=>i=.int .i64 0) (λ_=>0)
  .rfl
  obtain rfl:=hrel
  go_wp2
  go_ret;exact⟨true,rfl,λ_=>by simp[oX],dw _ _⟩
 obtain⟨n,hn⟩:=eX (l.length);have HN:=hD hn;have HC:=hD b;have r:(n:Int)<=140737488351232:=oM;rw[<-hn];clear hn b j c;by_cases f:n<=65536
 .have o:(n:Int)<=65536:=oM;go_enter func16,ntmps16
  go_wp2
  go_loopw [3,4] (λnv i wr=>∃m q:Nat,m<=n/\i=.int .i64 m/\nv=.int .i64 q/\q<=65536/\Hid (q=n+oX (l.take m))/\Hid (∃nq,wr=w.drewN nq)) (λ_ i _=>n-(intOf i).toNat)
  .exact⟨0,n,oM,rfl,rfl,f,rfl,⟨0,rfl⟩⟩
  obtain⟨m,q,hm,rfl,rfl,hq,Hq,⟨nq,u⟩⟩:=hrel;subst u;by_cases y:m<n
  .have g:m<l.length:=by have:=HN.out;omega
   obtain⟨x,hx⟩:=eX (l[m]);have a:=HC.out m g;rw[<-hx]at a;have c2:=a.c2;have c3:=a.c3;have n4:(x.s.size:Int)<=140737488351232:=by have:=a.ns;omega
   have n5:(x.t.size:Int)<=140737488351232:=by have:=a.nt;omega
   have HX:=hD hx;clear a hx;by_cases p:q+x.s.size+x.t.size<=65536
   .have d:(q:Int)+(x.s.size:Int)+(x.t.size:Int)<=65536:=oM
    go_wp2
    go_quiet (fail)
    go_wp2
    go_roundw
    case rel=>
     refine⟨m+1,q+x.s.size+x.t.size,oM,by go_num,by go_num,p,?_,?_⟩
     .show _=_;rw[BF l m g,<-HX.out,Hq.out];omega
     exact⟨_,rfl⟩
    exact mS
   have d:65536<(q:Int)+(x.s.size:Int)+(x.t.size:Int):=oM
   go_wp2
   go_quiet (fail)
   go_wp2
   go_ret;exact⟨false,rfl,(λh=>by cases h),⟨rfl,rfl,rfl,cO _,λ_ _=>rfl⟩⟩
  .go_wp2
   go_ret;refine⟨true,rfl,λ_=>?_,⟨rfl,rfl,rfl,cO _,λ_ _=>rfl⟩⟩;have h1:=Hq.out;have h2:=HN.out;rw[pK (by omega)]at h1;omega
 have o:65536<(n:Int):=oM;go_enter func16,ntmps16
 go_wp2
 go_ret;exact⟨false,rfl,(λh=>by cases h),dw _ _⟩
end
end Go.Proofs.YtapijhhmjjplmaaGreatDoor

import Derived.Test.YtapijhhmjjplmaaGreatDoorJonce20
namespace Go.Proofs.YtapijhhmjjplmaaGreatDoor
set_option linter.all false
set_option maxRecDepth 100000
set_option maxHeartbeats 4000000
open Go.Proofs.Tryz
variable {uA ca cb R:Array Value}{s:ByteArray}{x:pp}{l:List ByteArray}{nb mb:List ByteArray→Nat}{uD:List Deferred}{ba rb b:Nat}{S:Nat→Prop}{T:cS}{ta tb:TypeId}{w w1 w2 w':World}
section
open Go.RowKit Go.Maps
theorem Dw:∃i z,prog.info? 133=some i/\i.zero=some z/\i.size=33/\i.bytes=48/\z.cells.size=33:=by
 have h:((prog.info? 133).bind λi=>i.zero.map λz=>(i.size,i.bytes,z.cells.size))=some (33,48,33):=kR
 cases hi:prog.info? 133 with
 |none=>rw[hi]at h;cases h
 |some i=>
  rw[hi]at h
  cases hz:i.zero with
  |none=>simp[hz]at h
  |some z=>
   simp[hz]at h;exact⟨i,z,rfl,hz,h.1,h.2.1,h.2.2⟩
theorem Kb(Q:Exit->Act->World->Prop)(S X:World->Prop)(r:Bool)(g c k l m n:Nat)(A:Array Value)(w:World)(f:S w.drew)(hc:∀V,S V->V.cell? (yA g 0)=some (.map (some k))/\V.cell? (yA g 1)=some (.map (some l))/\V.cell? (yA g 2)=some (.map (some m))/\V.cell? (yA g 3)=some (.map (some n))/\V.rangeAt c 0 A.toList)(j:(prog.info? 131).map (·.size)=some A.toList.length)(h:Calls prog 220 #[.agg #[.map (some k),.map (some l),.map (some m),.map (some n)],.int .u8 3,.agg A] w.drew λe w'=>e=.returned (.bool r)/\S w'/\X w')(i:∀V,X V->∀uB,uP uA uB [19,20,21,22,23,24,25,26,27,28,29,30] [(30,.bool (!r))]->Q .normal ⟨uB,uD⟩ V)(hz:uA.size=56:=by rfl)(s0:gD uA 0=(yP g):=by rfl)(s5:gD uA 5=(yP c):=by rfl)(s6:gD uA 6=.bool true:=by rfl):(Code.region 2 (rg f149 2) true).wp prog Q ⟨uA,uD⟩ w:=by
 have b:=kb;have d:=mZ;refine rH S 12 f (λR hQ hn=>?_);refine tK hQ 0 f ?_;refine tK hQ 1 f ?_;refine tK hQ 2 f ?_;refine tK hQ 3 f ?_;refine tK hQ 4 f ?_;refine tK hQ 5 f ?_;refine tK hQ 6 f ?_;refine tK hQ 7 f ?_;refine tM hQ 8 c 0 A (λV hV=>(hc V hV).2.2.2.2) b j f ?_;refine rO 9 (λK hK=>?_);go_simp;go_at_call 220;refine h.mono ?_;rintro e w' ⟨rfl,a,hX⟩;refine hK.out _ _ a (λ_=>?_)
 try simp only[Act.put]
 refine tK hQ 10 a ?_;refine tK hQ 11 a ?_;exact rD (hn (i _ hX _ uQ))
theorem LH(Q:Exit->Act->World->Prop)(S:World->Prop)(g c j x m:Nat)(A:Array Value)(w:World)(b:S w.drew)(f:S (w.drew.alloc (.cells #[.int .i64 0,.int .i64 0] 356)))(h:S (w.drew.alloc (.cells #[.int .i64 x,.int .i64 m] 356)))(hc:∀V,S V->V.cell? (yA g 5)=some (.map (some j))/\V.rangeAt c 0 A.toList)(i:(prog.info? 131).map (·.size)=some A.toList.length)(d:∀V,S V->(Instr.lookup 176 (.map (some j)) (.agg A) false).run prog V=.ok (.agg #[.int .i64 x,.int .i64 m]) V)(e:∀V,V=w.drew.alloc (.cells #[.int .i64 x,.int .i64 m] 356)->∀uB,uP uA uB [7,31,32,33,34,35,36,37] [(7,yP w.heap.size)]->Q .normal ⟨uB,uD⟩ V)(hz:uA.size=56:=by rfl)(s0:gD uA 0=(yP g):=by rfl)(s5:gD uA 5=(yP c):=by rfl):(Code.region 4 (rg f149 4) true).wp prog Q ⟨uA,uD⟩ w:=by
 have a:=kb;refine rH S 9 b (λR hQ hn=>?_);refine tK hQ 0 b ?_;refine tK hQ 1 b ?_;refine tK hQ 2 b ?_;refine tK hQ 3 b ?_;refine tK hQ 4 b ?_;refine tM hQ 5 c 0 A (λV hV=>(hc V hV).2) a i b ?_;refine tK hQ 6 b ?_ (v:=.agg #[.int .i64 x,.int .i64 m]) (hv:=by intro V hV;have hl:=d V hV;go_simp);refine rO 7 (λK hK=>?_);go_simp;refine hK.out _ _ f (λ_=>?_)
 try simp only[Act.put]
 refine rO 8 (λK hK=>?_);go_simp;have hX:w.drew.alloc (.cells #[.int .i64 x,.int .i64 m] 356)=w.drew.alloc (.cells #[.int .i64 x,.int .i64 m] 356):=rfl;refine hK.out _ _ h (λ_=>?_)
 try simp only[Act.put]
 exact rD (hn (e _ hX _ uQ))
theorem Mv(Q:Exit->Act->World->Prop)(g c n:Nat)(sv:Value)(xs:List Value)(C row:Array Value)(rt:TypeId)(w:World)(hb:w.heap[g]?=some (.cells row rt (0,0)))(Z:w.cell? (yA g 4)=some sv)(Y:w.heap[c]?=some (.cells C 133 (0,0)))(hC:C.size=33)(h1:∀u∈C.toList,u.oneCell'=true)(a1:c≠g)(a0:w.ownsRow 0 133 33 sv n xs)(hn:n<=1000000)(o1:sv.ownBlock≠some g)(o2:sv.ownBlock≠some c)(a2:∃a l c,sv=.slice a l c)(X:∀g' c' w',w'.ownsRow 0 133 33 (.slice (yS g' 0) (n+1) c') (n+1) (xs++C.toList)->(w.drew.alloc (.cells C 133)).grownBy w' sv.ownBlock->(some g'=sv.ownBlock\/g'=w.heap.size+1)->∀uB,uP uA uB [46,47,48,49,50,51,52,53,54,55] []->Q .normal ⟨uB,uD⟩ (w'.setCell (yA g 4) (.slice (yS g' 0) (n+1) c')))(hz:uA.size=56:=by rfl)(s0:gD uA 0=(yP g):=by rfl)(s5:gD uA 5=(yP c):=by rfl):(Code.region 7 (rg f149 7) true).wp prog Q ⟨uA,uD⟩ w:=by
 obtain⟨i,z,hi,hz,J,S,F⟩:=Dw;have G:=cm hb;have O:=cm Y;have L:=Mp;have H:(prog.info? 133).map (·.size)=some C.toList.length:=by rw[gf,hC];kernel_rfl
 have k:∀V:World,V.heap[c]?=some (.cells C 133 (0,0))->V.rangeAt c 0 C.toList:=by intro V hV j v hv;rw[nS,cG hV,<-kX];exact hv
 have b:=k w.drew Y;have B:(w.drew.alloc (.cells C 133)).heap[c]?=some (.cells C 133 (0,0)):=by rw[rd _ _ _ (by exact O)];exact Y
 have m:=k _ B;obtain⟨v',w',hr,h2,h3,h4,h5⟩:=Jl (P:=prog) (w.drew.alloc (.cells C 133)) 0 114 114 133 i z 33 48 NX hi hz J S F dE sv n xs (rI a0 _) (yA w.heap.size 0) 1 1 C.toList (by rw[gf];omega)
  (λj u hj=>by
   have e:((yA w.heap.size 0):Addr).add j=(yA w.heap.size j):=by simp[Addr.add];omega
   have I:(w.drew.alloc (.cells C 133)).heap[w.heap.size]?=some (.cells C 133 (0,0)):=dM w.drew _;rw[e,cG I]
   simpa using hj) h1 (by unfold maxLen;omega) oM sI
 obtain⟨g',c',rfl⟩:∃g' c',v'=.slice (yS g' 0) (n+1) c':=by
  obtain⟨-,h|⟨g',A,T,M,-⟩⟩:=h2
  .omega
  .exact⟨g',A,M⟩
 have t:w'.heap[g]?=w.heap[g]?:=by rw[h3.block g (by simp;omega) (λe=>o1 e.symm),rd _ _ _ (by exact G)];rfl
 have U:w'.cell? (yA g 4)=some sv:=by
  have e:w'.cell? (yA g 4)=w.cell? (yA g 4):=by unfold World.cell?;rw[t]
  rw[e];exact Z
 have W:=fH w' g 4 _ _ (t.trans hb);have N:w'.heap[c]?=some (.cells C 133 (0,0)):=by rw[h3.block c (by simp;omega) (λe=>o2 e.symm)];exact B
 have d:=k _ N;have r:(w'.setCell (yA g 4) (.slice (yS g' 0) (n+1) c')).rangeAt c 0 C.toList:=by intro j v hv;rw[P5 _ _ _ _ (λe=>a1 e.symm)];exact d j v hv
 have p:Instr.fill (λj=>some (j*i.size,i.size)) ((Array.range (1*i.size)).map (z.cells[·%z.cells.size]!)) [(0,Value.agg C)]=some C:=by have h:=Ox (s:=i.size) oM [Value.agg C] ((Array.range (1*i.size)).map (z.cells[·%z.cells.size]!)) (by intro v hv;rw[List.mem_singleton.1 hv];show C.size=_;omega) sI;simpa [Value.cells]using h
 have f:∀a:Act,a.eval (.tmp 51)=.agg C->Instr.fill (λj=>some (j*i.size,i.size)) ((Array.range (1*i.size)).map (z.cells[·%z.cells.size]!)) ((#[((0:Nat),Operand.tmp 51)]:Array (Nat×Operand)).map λ(i,x)=>(i,a.eval x)).toList=some C:=λa ha=>by simp only[IW,vj,J6,ha];exact p
 have y:w.drew.cell? (yA g 4)=some sv:=by rw[nZ];exact Z
 have E:(w.drew.alloc (.cells C 133)).cell? (yA g 4)=some sv:=by rw[vY _ _ _ (by rw[y];rfl)];exact y
 obtain⟨wa,o⟩:∃wa,(w.drew.alloc (.cells C 133))=wa:=⟨_,rfl⟩;rw[o]at E m hr
 have q:some g'=sv.ownBlock\/g'=w.heap.size+1:=by
  rcases h5 with e|e
  .exact .inl e
  exact .inr (by simpa [Value.ownBlock]using e)
 refine rH (λV=>V.rangeAt c 0 C.toList) 11 b (λR hQ D=>?_);refine tK hQ 0 b ?_;refine tK hQ 1 b ?_;refine tK hQ 2 b ?_;refine tK hQ 3 b ?_;refine tM hQ 5 c 0 C (λV hV=>hV) L H b ?_;obtain⟨sa,sl,sc,rfl⟩:=a2;refine rG 4 6 (λK hK=>?_) (λK hK=>?_)
 .go_simp;refine hK.out _ _ b (λ_=>?_)
  try simp only[Act.put]
  refine rW 6 (λK hK=>?_);refine JS 114 133 1 _ rfl C i z NX hi hz oM oM (f _ (by rw[A7];go_simp)) ?_;rw[o];refine hK.out _ _ m (λ_=>?_)
  try simp only[Act.put]
  refine rB 7 hr d ?_;refine tK hQ 8 d ?_;refine tK hQ 9 d ?_;refine rO 10 (λK hK=>?_);go_simp;refine hK.out _ _ r (λ_=>?_)
  try simp only[Act.put]
  exact rD (D (X g' c' w' h2 h3 q _ uQ))
 .refine JS 114 133 1 _ rfl C i z NX hi hz oM oM (f _ (by rw[A7];go_simp)) ?_;rw[o];refine hK.out _ _ m (λ_=>?_)
  try simp only[Act.put]
  refine rO 4 (λK hK=>?_);go_simp;refine hK.out _ _ m (λ_=>?_)
  try simp only[Act.put]
  refine rB 7 hr d ?_;refine tK hQ 8 d ?_;refine tK hQ 9 d ?_;refine rO 10 (λK hK=>?_);go_simp;refine hK.out _ _ r (λ_=>?_)
  try simp only[Act.put]
  exact rD (D (X g' c' w' h2 h3 q _ uQ))
theorem Kc(w:World)(p:Addr):(binOp .neq 92 (rv p) (rv p)).run prog w=.ok (.bool false) w:=by
 obtain⟨i,hi,hc⟩:=Option.map_eq_some_iff.1 xW;obtain⟨j,hj,a⟩:=Option.map_eq_some_iff.1 xP;clear a;simp only[binOp];simp[Op.equal,Op.maxDepth,run_equalIn_iface_ptr_same w 9998 p Nq OW hi hc hj]
theorem Iy(w:World)(p q:Addr)(b:p≠q)(c:w.heap[p.block]?=some (.cells ca ta (0,0)))(d:w.heap[q.block]?=some (.cells cb tb (0,0))):(binOp .neq 92 (rv p) (rv q)).run prog w=.ok (.bool true) w:=by
 obtain⟨i,hi,hc⟩:=Option.map_eq_some_iff.1 xW;obtain⟨j,hj,a⟩:=Option.map_eq_some_iff.1 xP;have hs:j.size≠0:=by rw[a];decide
 simp only[binOp];simp[Op.equal,Op.maxDepth,run_equalIn_iface_ptr_other w 9998 Nq OW hi hc hj hs b c d]
theorem EY(w:World)(q:Addr):(binOp .neq 92 .nilIface (rv q)).run prog w=.ok (.bool true) w:=by
 have h:∀d:Nat,(Op.equalIn (d+1) 92 .nilIface (.iface 458 (.pointer (some q)))).run prog w=.ok false w:=λd=>by simp[Op.equalIn,PJ Nq]
 simp only[binOp];simp[Op.equal,Op.maxDepth,h 9999]
theorem Ig{d:ByteArray}(h:da (dD T) s≠0):da (λl=>iG T l d) s=(if 1536<d.size/\da (dD T) s≠5 then 11 else da (dD T) s)/\dz T (λl=>ia T l d) s=T:=by
 cases hp:cZ s with
 |none=>
  rw[ij hp,ij hp];exact⟨by rw[dj (λh=>h.2 rfl)],iu hp⟩
 |some l=>
  by_cases h0:l=[]
  .subst h0;rw[iW hp,iW hp];exact⟨by rw[dj (λh=>h.2 rfl)],iV hp⟩
  rw[ee hp h0]at h⊢;rw[ee hp h0,eL hp h0]
  have h5:dD T l≠5:=by
   unfold dD;have:=fT T l.dropLast [];split
   .omega
   .split<;>omega
  by_cases hb:1536<d.size
  .rw[dq ⟨hb,h5⟩];exact uw hb
  rw[dj (λh=>hb h.1)];exact wI hb h
theorem Ls{d:ByteArray}(a:cZ s=some l)(b:l≠[]):da (λl=>iG T l d) s=iG T l d/\dz T (λl=>ia T l d) s=ia T l d:=⟨ee a b,eL a b⟩
theorem gd.set{b:Array Value}(h:mP w S ba b R rb nb mb T)(c:cA T l=some x)(i:x.dir=false)(d:ByteArray)(f:Below w.heap.size w w1):
  gd (w1.setCell ⟨nb l,0,none⟩ (.string d)) (λg=>S g\/w.heap.size<=g) ba b (jl T l d)/\cq S w (w1.setCell ⟨nb l,0,none⟩ (.string d)):=by
 have h1:=h.on (U:=λ_=>False) (cN f) (λ_ _ h=>h);have a:=h.tree.sn l (.inr (by rw[c];rfl));refine⟨gd.mono ⟨R,rb,nb,mb,?_,h.sb,h.r0,h.r1,?_,h1.tree.set c i d⟩ (λ_ h=>.inl h),cq.setCell (cN f) ⟨nb l,0,none⟩ a.1 _⟩
 .rw[lq _ _ _ _ (λe=>a.2 e.symm)];exact h1.blk
 rw[Ak];exact h.r2
theorem Ci(ba:Nat)(f:Array Value)(S:Nat->Prop)(T:cS)(a:Nat->Addr)(m:Int)(s d:ByteArray)(w:World)(h:gd w S ba f T)(j:eN T)(i:∀g,S g->g<w.heap.size)(n:eS w a m)(o:s.size<=262144)(p:d.size<=262144):
  Calls prog 161 #[.pointer (yS ba 1),.string s,.string d] w λe w'=>fk w a S ba f (dz T (λl=>ia T l d) s) (da (λl=>iG T l d) s) e w':=by
 have hnot:=mZ;have hdi:(d.size:Int)<=262144:=oM;have HA:=hD h;obtain⟨R,rb,nb,mb,h⟩:=h;have HH:=hD h;have HT:=hD j;have HSL:=hD i;have HP:=hD (px ba _ rb T nb mb a m s w h.tree j h.c1 n o);have HON:Hid (∀w',Below w.heap.size w w'->eS w' a m/\mP w' S ba f R rb nb mb T):=λw' hb=>⟨n.on hb,h.on (U:=λ_=>False) (cN hb) (λ_ _ h=>h)⟩
 have HCL:Hid (∀w1,Calls prog 158 #[.string d] w1 λe w'=>e=.returned (.string d)/\Below w1.heap.size w1 w'):=λw1=>kz d w1 oM
 obtain⟨cde,hcde⟩:∃c,c=da (λl=>iG T l d) s:=⟨_,rfl⟩;obtain⟨T2,hT2⟩:∃t,t=dz T (λl=>ia T l d) s:=⟨_,rfl⟩;rw[<-hcde,<-hT2];have HX:Hid (cde=da (λl=>iG T l d) s/\T2=dz T (λl=>ia T l d) s):=⟨hcde,hT2⟩;clear h j hcde hT2 n i;go_enter func161,ntmps161
 go_wp2_with fail
 refine HP.mono ?_;rintro e w1 ⟨dv,nm,rfl,hb1,⟨hc0,rfl,rfl⟩|⟨l,hl,h0,hsp,rfl,rfl⟩⟩
 .have HB1:=hD hb1;obtain⟨e1,e2⟩:=Ig (d:=d) hc0;have HZ:=jk HX.1 HX.2 e1 e2;obtain⟨hV1,-⟩:=HON w1 hb1;have hle:=At T s;obtain⟨c,hc⟩:=eX (da (dD T) s);rw[<-hc]at hc0 HZ hle⊢;have hev:fg a c=rv (a (c-1)):=by unfold fg;rw[dj hc0]
  rw[hev];have hE4:=hV1.sent.v4;have hE10:=hV1.sent.v10
  have hcmp:(binOp .neq 92 (rv (a (c-1))) (rv (a 4))).run prog w1=.ok (.bool (decide (c≠5))) w1:=by
   by_cases h5:c=5
   .subst h5;exact Kc w1 (a 4)
   rw[jX h5];obtain⟨c1,t1,hr1⟩:=hV1.sent.row (c-1) oM;obtain⟨c2,t2,hr2⟩:=hV1.sent.row 4 oM;exact Iy w1 _ _ (hV1.sent.inj _ _ oM oM oM) hr1 hr2
  obtain⟨ad,had⟩:=eX (a (c-1));obtain⟨a4,ha4⟩:∃x,x=a 4:=⟨_,rfl⟩;obtain⟨a10,ha10⟩:∃x,x=a 10:=⟨_,rfl⟩;rw[<-had]at hev hcmp⊢;rw[<-ha4]at hcmp hE4;rw[<-ha10]at hE10;have HEV:=hD hev;have HE11:Hid (fg a 11=rv a10):=by show _=_;rw[ha10];rfl
  clear hb1 e1 e2 hc hev had ha4 ha10 hV1 hle;by_cases hbig:1536<d.size
  .by_cases h5:c=5
   .rw[lW (λh=>h h5)]at hcmp;rw[dj (λh=>h.2 h5)]at HZ;clear h5 hc0
    go_wp2
    go_ret;rw[HZ.out.1,HZ.out.2];show fk _ _ _ _ _ _ _ (.returned (rv ad)) _;rw[<-HEV.out];exact fk.refused HA HB1
   rw[jX h5]at hcmp;rw[dq ⟨hbig,h5⟩]at HZ;clear h5 hc0
   go_wp2
   go_ret;rw[HZ.out.1,HZ.out.2];show fk _ _ _ _ _ _ 11 (.returned (rv a10)) _;rw[<-HE11.out];exact fk.refused HA HB1
  rw[dj (λh=>hbig h.1)]at HZ;clear hc0
  go_wp2
  go_ret;rw[HZ.out.1,HZ.out.2];show fk _ _ _ _ _ _ _ (.returned (rv ad)) _;rw[<-HEV.out];exact fk.refused HA HB1
 have HB1:=hD hb1;have hce:da (dD T) s=0:=by rw[ee hl h0];exact hsp
 rw[hce,show fg a 0=.nilIface from rfl];obtain⟨o1,o2⟩:=Ls (T:=T) (d:=d) hl h0;have HX1:Hid (cde=iG T l d/\T2=ia T l d):=⟨HX.1.trans o1,HX.2.trans o2⟩;obtain⟨hV1,hA1⟩:=HON w1 hb1;have hE4:=hV1.sent.v4;have hE6:=hV1.sent.v6;have hE10:=hV1.sent.v10;have hcmp:=EY w1 (a 4);obtain⟨a4,ha4⟩:∃x,x=a 4:=⟨_,rfl⟩;obtain⟨a6,ha6⟩:∃x,x=a 6:=⟨_,rfl⟩;obtain⟨a10,ha10⟩:∃x,x=a 10:=⟨_,rfl⟩;rw[<-ha4]at hcmp hE4;rw[<-ha6]at hE6;rw[<-ha10]at hE10;have HE11:Hid (fg a 11=rv a10):=by show _=_;rw[ha10];rfl
 have HE7:Hid (fg a 7=rv a6):=by show _=_;rw[ha6];rfl
 by_cases hbig:1536<d.size
 .obtain⟨e1,e2⟩:=uw (T:=T) (l:=l) hbig;have HZ:=jk HX1.1 HX1.2 e1 e2;obtain⟨bq,hbq⟩:=eX (nb l.dropLast);have hpq:eM (nb l.dropLast)=(yP bq):=by rw[hbq];rfl
  rw[hpq];clear hb1 hl h0 hsp hce o1 o2 hV1 hA1 ha4 ha6 ha10 e1 e2 hbq hpq
  go_wp2
  go_ret;rw[HZ.out.1,HZ.out.2];show fk _ _ _ _ _ _ 11 (.returned (rv a10)) _;rw[<-HE11.out];exact fk.refused HA HB1
 obtain⟨hq,hqf,-⟩:=lR hsp;obtain⟨D,hD,hK⟩:=hA1.tree.map _ hq hqf;have hrow:=hA1.tree.node _ hq;rw[iK hqf]at hrow;have c1:w1.cell? ⟨nb l.dropLast,1,none⟩=some (.map (some (mb l.dropLast))):=cG hrow;have hnms:(eF l).size<=16:=(io ((dR hl).1 _ (oA h0))).2;have HD:Hid (w1.ownsMap prog 9 cY (mb l.dropLast) 256 D):=hD;have HK:Hid (jr T nb l.dropLast D):=hK;have HADD:Hid (∀w2,cq (λ_=>False) w1 w2->∀b,Calls prog 154 #[.pointer (yS ba 1),eM (nb l.dropLast),.string (eF l),eM b] w2 λe w'=>xw w2 a ba (mb l.dropLast) T l.dropLast D (eF l) b e w'):=λw2 hs2 b=>by have hA2:=hA1.on hs2 (λ_ _ h=>h);have hb2:Below w1.heap.size w1 w2:=⟨hs2.os,hs2.tape,hs2.output,hs2.size,λk hk=>hs2.block k hk (λh=>h)⟩;exact zL ba _ rb T nb mb a l.dropLast (eF l) b D w2 hA2.tree HT hq hqf (dg hD (hs2.block _ (dN hD) (λh=>h))) hK oM hA2.c2 (fH _ _ _ _ _ hA2.blk) (λh=>h.2 rfl) (hV1.on hb2).sent.v9
 have hlk:cA T (l.dropLast++[eF l])=cA T l:=by rw[kH h0]
 have hnl:=kH h0;have HLL:Hid (l≠[]/\dD T l=0/\cZ s=some l):=⟨h0,hsp,hl⟩;obtain⟨q,hqq⟩:=eX (l.dropLast);obtain⟨nm,hnm⟩:=eX (eF l);have HQ:Hid (q=l.dropLast/\nm=eF l):=⟨hqq,hnm⟩;rw[<-hqq]at c1 HD HK HADD hlk hnl;rw[<-hnm]at hnms HADD hlk hnl;rw[<-hqq,<-hnm];obtain⟨bq,hbq⟩:=eX (nb q);have hpq:eM (nb q)=(yP bq):=by rw[hbq];rfl
 rw[<-hbq]at c1;rw[hpq]at HADD⊢;obtain⟨bm,hbm⟩:=eX (mb q);have HBM:Hid (bm=mb q):=hbm;rw[<-hbm]at c1 HD HADD;clear hb1 hl h0 hsp hce hD hK hrow hqq hnm hbq hpq hbm hq hqf o1 o2 ha4 ha6 ha10
 cases hx:cA T l with
 |some x=>
  obtain⟨e1,e2⟩:=vP hbig HLL.2.1 hx;have HZ:=jk HX1.1 HX1.2 e1 e2;have hln:dK T l:=.inr (by rw[hx];rfl);have HL0:Hid ((cA T (q++[nm])).isSome=true/\(if(cA T (q++[nm])).isSome then eM (nb (q++[nm]))else Value.pointer none)=.pointer (some ⟨nb l,0,none⟩)):=⟨by rw[hlk,hx];rfl,by rw[hlk,hx,hnl];rfl⟩;have HIS:=hD (hA1.tree.isDir l hln);have hisf:eO T l=!x.dir:=by unfold eO;rw[hx]
  rw[hisf,Bool.not_not]at HIS;have hrl:=hA1.tree.node l hln;have HSET:Hid (∀w2,Below w.heap.size w w2->x.dir=false->fk w a S ba f (jl T l d) 0 (.returned .nilIface) (w2.setCell ⟨nb l,0,none⟩ (.string d))):=λw2 hb2 hxd=>by have:=gd.set HH hx hxd d hb2;exact⟨rfl,this.1,this.2⟩
  have c0:w1.cell? ⟨nb l,0,none⟩=some (.string (i8 T l)):=by rw[cG hrl];rfl
  have f0:=fH w1 (nb l) 0 _ _ hrl;have hbl:=cm hrl;obtain⟨bl_,hbl_⟩:∃b,b=nb l:=⟨_,rfl⟩;rw[<-hbl_]at HL0 HIS HSET c0 f0 hbl;clear e1 e2 hx hlk HADD hnl hA1 hV1 hisf hrl hln hbl_;cases hxd:x.dir
  .rw[hxd]at HZ HIS;have HSE2:Hid (∀w2,Below w.heap.size w w2->fk w a S ba f (jl T l d) 0 (.returned .nilIface) (w2.setCell (yA bl_ 0) (.string d))):=λw2 hb2=>HSET w2 hb2 hxd
   clear hxd HSET
   go_wp2_with (first|(at_lookup;refine dH rfl _ _ rfl bm 256 D T nb q HK rfl HD nm rfl oM _ _ HL0.2 HL0.1 ?_)|(go_at_call 226;refine HIS.mono ?_;rintro e w2 ⟨rfl,rfl⟩)|(go_at_call 158;refine(HCL _).mono ?_;rintro e w2 ⟨rfl,hb2⟩;have HB2:Hid (Below w.heap.size w w2):=HB1.trans (hb2.mono HB1.size);have c02:w2.cell? (yA bl_ 0)=some (.string (i8 T l)):=(by rw[hb2.cell hbl];exact c0);have f02:w2.frozen? (yA bl_ 0)=false:=(by rw[hb2.frozen hbl];exact f0);clear hb2))
   go_ret;rw[HZ.out.1,HZ.out.2];exact HSE2 _ HB2
  rw[hxd]at HZ HIS;clear hxd HSET
  go_wp2_with (first|(at_lookup;refine dH rfl _ _ rfl bm 256 D T nb q HK rfl HD nm rfl oM _ _ HL0.2 HL0.1 ?_)|(go_at_call 226;refine HIS.mono ?_;rintro e w2 ⟨rfl,rfl⟩))
  go_ret;rw[HZ.out.1,HZ.out.2];show fk _ _ _ _ _ _ 7 (.returned (rv a6)) _;rw[<-HE7.out];exact fk.refused HA HB1
 |none=>
  obtain⟨e1,e2⟩:=vT hbig HLL.2.1 hx;have HZ:=jk HX1.1 HX1.2 e1 e2;have HL0:Hid ((cA T (q++[nm])).isSome=false/\(if(cA T (q++[nm])).isSome then eM (nb (q++[nm]))else Value.pointer none)=.pointer none):=⟨by rw[hlk,hx];rfl,by rw[hlk,hx];rfl⟩;have HN:=hD hx;clear e1 e2 hx hlk hA1 hV1 hnl
  go_wp2_with (first|(at_lookup;refine dH rfl _ _ rfl bm 256 D T nb q HK rfl HD nm rfl oM _ _ HL0.2 HL0.1 ?_)|(go_at_call 158;refine(HCL _).mono ?_;rintro e w2 ⟨rfl,hb2⟩;have HB2:Hid (Below w1.heap.size w1 w2):=hb2;clear hb2))
  obtain⟨W2,hW2⟩:=eX (w2.alloc (.cells #[.string d,.map none] 274));rw[<-hW2];have hs2:cq (λ_=>False) w1 W2:=by rw[hW2];exact(cN HB2).alloc _
  have hz2:=HB2.size;refine(HADD W2 hs2 w2.heap.size).mono ?_;rintro e w3 (⟨hf,rfl,rfl⟩|⟨hf,rfl,w3',hj,rfl⟩)
  .rw[<-HQ.out.1,hf]at HZ;obtain⟨ad,had⟩:=eX (a 9);have hev:fg a 10=rv ad:=by rw[had];rfl
   rw[hev];have HEV:=hD hev;have HBW:=hD (HB1.trans (Below.mono (B:=w1.heap.size) ⟨hs2.os,hs2.tape,hs2.output,hs2.size,λk hk=>hs2.block k hk (λh=>h)⟩ HB1.size));clear hf hev had hs2 hW2
   go_wp2
   go_ret;rw[HZ.out.1,HZ.out.2];show fk _ _ _ _ _ _ 10 (.returned (rv ad)) _;rw[<-HEV.out];exact fk.refused HA HBW
  rw[<-HQ.out.1,hf]at HZ
  have HF:Hid (fk w a S ba f (T++[⟨l,false,d⟩]) 0 (.returned .nilIface) (w3'.setCell (yA ba 2) (.int .i64 ((T.length:Int)+1)))):=by
   obtain⟨l0,l1,l2⟩:=HLL;have hfu:fZ T l.dropLast=false:=by rw[<-HQ.out.1];exact hf
   have hrow2:W2.heap[w2.heap.size]?=some (.cells #[.string d,.map none] 274 (0,0)):=hW2▸dM w2 _;have hm:=gd.more HH HT l0 HN l1 ⟨l,false,d⟩ rfl w2.heap.size 0 D (HT.append (dR l2).1 (dR l2).2 l0 l1 HN hfu false d (λh=>by cases h) oM) HSL HB1 hs2 ⟨hz2,by rw[hW2];simp⟩ (λh=>by cases h) hrow2 (by rw[<-HQ.out.1,<-HBM.out];exact HD) (by rw[<-HQ.out.1,<-HQ.out.2,<-HBM.out];exact hj);exact⟨rfl,hm.1,hm.2⟩
  clear hf hj hs2 hW2
  go_wp2
  go_ret;rw[HZ.out.1,HZ.out.2];exact HF
theorem D8(c:eN T)(d:l≠[])(a:eO T l=true):dZ T l=[]:=by
 cases hk:dZ T l with
 |nil=>rfl
 |cons n r=>
  have h1:n∈dZ T l:=by rw[hk];simp
  rw[iS c]at h1;obtain⟨x,hx⟩:=Option.isSome_iff_exists.1 h1;obtain⟨h2,h3⟩:=dI hx;have h4:=c.up x h2;rw[h3,Pk]at h4;obtain⟨y,hy,hd⟩:=h4 d;unfold eO at a;rw[hy]at a;simp[hd]at a
theorem gd.less{r:Array Value}(h:mP w S ba r R rb nb mb T)(s:eN T)(t:l≠[])(u:cA T l=some x)(p:dD T l=0)(D:DataW Value)(o:Below w.heap.size w w1)(v:w1.ownsMap prog 9 cY (mb l.dropLast) 256 D)(y:w2.ownsMap prog 9 cY (mb l.dropLast) 256 (D.del (.string (bl (eF l)))))(q:cq (·=mb l.dropLast) w1 w2):
  gd (w2.setCell (yA ba 2) (.int .i64 ((T.length:Int)-1))) (λg=>S g\/w.heap.size<=g) ba r (dS T l)/\cq S w (w2.setCell (yA ba 2) (.int .i64 ((T.length:Int)-1))):=by
 obtain⟨hq,b,-⟩:=lR p;have h1:=h.on (U:=λ_=>False) (cN o) (λ_ _ h=>h);have d:=h.tree.sm _ hq b
 have a:=h1.tree.less t hq b q (λD' m=>by
  have e:D'=D:=by obtain⟨es,c,e1,-,-,e2⟩:=m;obtain⟨n,c',k,-,-,i⟩:=v;rw[k]at e1;cases e1;rw[e2,i]
  rw[e]
  exact y)
 have j:ba≠mb l.dropLast:=λe=>d.2 e.symm
 have f:w2.heap[ba]?=some (.cells R 129 (0,0)):=by rw[q.block ba (cm h1.blk) j];exact h1.blk
 have hl:=pX s.dis u;refine⟨gd.mono ⟨_,_,_,_,mP.count f h.sb h.r0 h.r1 h.r2 a _ oM⟩ (λ_ h=>.inl h),?_⟩;refine cq.setCell ?_ (yA ba 2) h.sb _;have s1:cq S w w1:=cN o;exact s1.trans (q.weak (by rintro g rfl;exact d.1))
theorem zD(h:w.mapTurned w' b):cq (·=b) w w':=by
 have:=h.grown;exact⟨this.os,this.tape,this.output,this.size,λk hk hn=>this.block k hk (λe=>hn (kM e))⟩
theorem zO(ba:Nat)(bd:Array Value)(S:Nat->Prop)(T:cS)(a:Nat->Addr)(m:Int)(s:ByteArray)(w:World)(h:gd w S ba bd T)(hT:eN T)(hV:eS w a m)(hs:s.size<=262144):
  Calls prog 169 #[.pointer (some ⟨ba,1,none⟩),.string s] w λe w'=>fk w a S ba bd (dz T (d9 T) s) (da (dV T) s) e w':=by
 have ap:=mZ;have HA:=hD h;obtain⟨R,rb,nb,mb,h⟩:=h;have HH:=hD h;have HT:=hD hT;have HP:=hD (px ba _ rb T nb mb a m s w h.tree hT h.c1 hV hs);have am:Hid (∀w',Below w.heap.size w w'->eS w' a m/\mP w' S ba bd R rb nb mb T):=λw' hb=>⟨hV.on hb,h.on (U:=λ_=>False) (cN hb) (λ_ _ h=>h)⟩
 obtain⟨al,o⟩:∃c,c=da (dV T) s:=⟨_,rfl⟩;obtain⟨T2,V⟩:∃t,t=dz T (d9 T) s:=⟨_,rfl⟩;rw[<-o,<-V];have HX:Hid (al=da (dV T) s/\T2=dz T (d9 T) s):=⟨o,V⟩;clear h hT o V hV;go_enter func169,ntmps169
 go_wp2_with fail
 refine HP.mono ?_;rintro e w1 ⟨dv,nm,rfl,y,⟨F,rfl,rfl⟩|⟨l,hl,h0,u,rfl,rfl⟩⟩
 .have v:=hD y;obtain⟨e1,e2⟩:=zl F;have HZ:=jk HX.1 HX.2 e1 e2;obtain⟨c,hc⟩:=eX (da (dD T) s);rw[<-hc]at F HZ⊢;have C:fg a c=rv (a (c-1)):=by unfold fg;rw[dj F]
  rw[C];obtain⟨ad,a6⟩:=eX (a (c-1));rw[<-a6]at C⊢;have ai:=hD C;clear y F e1 e2 hc C a6
  go_wp2
  go_ret;rw[HZ.out.1,HZ.out.2];show fk _ _ _ _ _ _ _ (.returned (rv ad)) _;rw[<-ai.out];exact fk.refused HA v
 have v:=hD y;have a9:da (dD T) s=0:=by rw[ee hl h0];exact u
 rw[a9,show fg a 0=.nilIface from rfl];obtain⟨H,J⟩:=EQ hl h0 u;obtain⟨X,d⟩:=am w1 y;obtain⟨hq,E,-⟩:=lR u;obtain⟨D,hD,hK⟩:=d.tree.map _ hq E;have z:=d.tree.node _ hq;rw[iK E]at z;have c1:w1.cell? ⟨nb l.dropLast,1,none⟩=some (.map (some (mb l.dropLast))):=cG z;have a0:(eF l).size<=16:=(io ((dR hl).1 _ (oA h0))).2;have an:=X.sent.v5;have ac:=X.sent.v8;have c2:=d.c2;have f2:=fH w1 ba 2 _ _ d.blk;have L:=cm d.blk;have i:ba≠mb l.dropLast:=λe=>(d.tree.sm _ hq E).2 e.symm
 have HD:Hid (w1.ownsMap prog 9 cY (mb l.dropLast) 256 D):=hD;have HK:Hid (jr T nb l.dropLast D):=hK;have f:cA T (l.dropLast++[eF l])=cA T l:=by rw[kH h0]
 have k:=kH h0;have ag:Hid (l≠[]/\dD T l=0/\cZ s=some l):=⟨h0,u,hl⟩;have av:=HT.len;obtain⟨q,G⟩:=eX (l.dropLast);obtain⟨nm,B⟩:=eX (eF l);have HQ:Hid (q=l.dropLast/\nm=eF l):=⟨G,B⟩;rw[<-G]at c1 HD HK f k i;rw[<-B]at a0 f k;rw[<-G,<-B];obtain⟨bq,O⟩:=eX (nb q);have Z:eM (nb q)=.pointer (some ⟨bq,0,none⟩):=by rw[O];rfl
 rw[<-O]at c1;rw[Z];obtain⟨bm,Y⟩:=eX (mb q);have Q:Hid (bm=mb q):=Y;rw[<-Y]at c1 HD i;obtain⟨a5,N⟩:∃x,x=a 5:=⟨_,rfl⟩;obtain⟨a8,W⟩:∃x,x=a 8:=⟨_,rfl⟩;rw[<-N]at an;rw[<-W]at ac;have ae:Hid (fg a 6=rv a5):=by show _=_;rw[N];rfl
 have ab:Hid (fg a 9=rv a8):=by show _=_;rw[W];rfl
 clear y hl u a9 hD hK z G B O Z Y hq E X N W
 cases hx:cA T l with
 |none=>
  obtain⟨e1,e2⟩:=H hx;have HZ:=jk HX.1 HX.2 e1 e2;have g:Hid ((cA T (q++[nm])).isSome=false/\(if(cA T (q++[nm])).isSome then eM (nb (q++[nm]))else Value.pointer none)=.pointer none):=⟨by rw[f,hx];rfl,by rw[f,hx];rfl⟩;clear H J e1 e2 hx f k d
  go_wp2_with (at_lookup;refine dH rfl _ _ rfl bm 256 D T nb q HK rfl HD nm rfl oM _ _ g.2 g.1 ?_)
  go_ret;rw[HZ.out.1,HZ.out.2];show fk _ _ _ _ _ _ 6 (.returned (rv a5)) _;rw[<-ae.out];exact fk.refused HA v
 |some x=>
  obtain⟨k1,k2⟩:=J x hx;have I:dK T l:=.inr (by rw[hx];rfl);have g:Hid ((cA T (q++[nm])).isSome=true/\(if(cA T (q++[nm])).isSome then eM (nb (q++[nm]))else Value.pointer none)=.pointer (some ⟨nb l,0,none⟩)):=⟨by rw[f,hx];rfl,by rw[f,hx,k];rfl⟩;have n:=d.tree.node l I;have ao:=hD hx
  
  obtain⟨mo,ah,a3⟩:∃mo,w1.cell? ⟨nb l,1,none⟩=some (.map mo)/\∀ty,(Builtin.len_ #[272] ty #[.map mo]).run prog w1=.ok (.int .i64 ((dZ T l).length:Int)) w1:=by
   cases hf:eO T l
   .rw[iK hf]at n;obtain⟨D',af,aj⟩:=d.tree.map l I hf;refine⟨some (mb l),by rw[cG n];rfl,λty=>?_⟩;have:=af.len La ty;rw[(aj.keys HT.out).2]at this;exact this
   rw[oz hf]at n;refine⟨none,by rw[cG n];rfl,λty=>?_⟩;rw[D8 HT.out h0 hf];rfl
  have aa:(dZ T l).length<=256:=lZ (nz _ _) HT.len;obtain⟨K,r⟩:=eX ((dZ T l).length);rw[<-r]at a3 aa;obtain⟨au,p⟩:∃b,b=nb l:=⟨_,rfl⟩;rw[<-p]at g ah;by_cases hk:dZ T l=[]
  .obtain⟨e1,e2⟩:=k2 hk;have HZ:=jk HX.1 HX.2 e1 e2;have a7:K=0:=by rw[r,hk];rfl
   subst a7;have ak:IntKind.i64.wrap ((T.length:Int)-1)=(T.length:Int)-1:=by rw[pH];omega
   have a2:Hid (∀w2,w2.ownsMap prog 9 cY bm 256 (D.del (.string (bl nm)))->w1.mapTurned w2 bm->w2.cell? ⟨ba,2,none⟩=some (.int .i64 T.length)/\w2.frozen? ⟨ba,2,none⟩=false/\Hid (fk w a S ba bd (dS T l) 0 (.returned .nilIface) (w2.setCell ⟨ba,2,none⟩ (.int .i64 ((T.length:Int)-1))))):=λw2 ho ht=>by have P:=zD ht;refine⟨P.cell (by exact i) c2,by rw[World.frozen?_of_block (w:=w1) (P.block ba L i)];exact f2,?_⟩;obtain⟨l0,l1,-⟩:=ag;have hm:=gd.less HH HT l0 ao l1 D v (by rw[<-HQ.out.1,<-Q.out];exact HD) (by rw[<-HQ.out.1,<-HQ.out.2,<-Q.out];exact ho) (by rw[<-HQ.out.1,<-Q.out];exact P);exact⟨rfl,hm.1,hm.2⟩
   have M:keyOf prog 9 (.string nm)=some (.string (bl nm)):=NQ xV (by unfold maxLen;omega);have a4:=hD M;clear k1 k2 H J e1 e2 hx f k d hk r p n I h0 i L c2 f2 M
   go_wp2_with (first|(at_lookup;refine dH rfl _ _ rfl bm 256 D T nb q HK rfl HD nm rfl oM _ _ g.2 g.1 ?_)|(at_delete;refine wpList_delete_own _ rfl _ _ 272 9 rfl 111 mm La cY bm 256 D rfl HD _ _ rfl a4 ?_;intro w2 A j;obtain⟨aq,ar,a1⟩:=a2 w2 A j;clear A j))
   go_ret;rw[HZ.out.1,HZ.out.2];exact a1
  obtain⟨e1,e2⟩:=k1 hk;have HZ:=jk HX.1 HX.2 e1 e2;have a7:0<K:=r▸List.length_pos_iff.2 hk;clear k1 k2 H J e1 e2 hx f k d hk r p n I h0
  go_wp2_with (at_lookup;refine dH rfl _ _ rfl bm 256 D T nb q HK rfl HD nm rfl oM _ _ g.2 g.1 ?_)
  go_ret;rw[HZ.out.1,HZ.out.2];show fk _ _ _ _ _ _ 9 (.returned (rv a8)) _;rw[<-ab.out];exact fk.refused HA v
end
end Go.Proofs.YtapijhhmjjplmaaGreatDoor

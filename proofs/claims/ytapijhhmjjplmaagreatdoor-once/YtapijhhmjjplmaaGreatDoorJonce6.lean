import Derived.Test.YtapijhhmjjplmaaGreatDoorJonce1
import Derived.Test.YtapijhhmjjplmaaGreatDoorRows
namespace Go.Proofs.YtapijhhmjjplmaaGreatDoor
set_option linter.all false
set_option maxRecDepth 100000
set_option maxHeartbeats 4000000
open Go.Proofs.Tryz
variable {uA:Array Value}{uD:List Deferred}
section
theorem vS:laidOutB prog=true:=kR
theorem Ag:mapsRowed prog=true:=kR
end
section
open Go.RowKit
theorem LD(Q:Exit->Act->World->Prop)(S:World->Prop)(n:World->World->Value->Prop)(P:World->Value->Nat->Prop)(X:World->Nat->Nat->Nat->Prop)(b bw j o p:Nat)(q:Option Addr)(s t:ByteArray)(w:World)(g:S w.drew)(i:∀V O,S V->S (V.alloc O))(hc:∀V,S V->V.cell? (yA b 2)=some (.string s)/\V.cell? (yA b 3)=some (.string t))(u:∀V,(V=w.drew\/V=(w.drew.alloc (.cells #[.string s,.bool false,.string t] 109)))->V.cell? (yA bw 3)=some (.slice q o p))(k:∀V,(V=w.drew\/V=(w.drew.alloc (.cells #[.string s,.bool false,.string t] 109)))->Calls prog 55 #[.slice q o p,.int .i64 j] V λe w'=>∃vw,e=.returned vw/\S w'/\n V w' vw)(r:∀w' vw,n w.drew w' vw->P (w'.alloc (.cells #[.string s,.bool false,.string t] 109)) vw w'.heap.size)(m:∀w' vw,n (w.drew.alloc (.cells #[.string s,.bool false,.string t] 109)) w' vw->P w' vw w.heap.size)(l:∀V vw gb,P V vw gb->∃g' m' c' w',(Builtin.append_ #[32,32] 32 #[vw,.slice (yS gb 0) 1 1]).run prog V=.ok (.slice (yS g' 0) m' c') w'/\S w'/\w'.cell? (yA bw 3)=some (.slice q o p)/\w'.frozen? (yA bw 3)=false/\S (w'.setCell (yA bw 3) (.slice (yS g' 0) m' c'))/\X (w'.setCell (yA bw 3) (.slice (yS g' 0) m' c')) g' m' c')(h:∀V g' m' c',X V g' m' c'->∀uB,uP uA uB [35,36,37,38,39,40,41,42,43,44,45,46,47,48,49,50] []->Q .normal ⟨uB,uD⟩ V)(hz:uA.size=132:=by rfl)(s0:gD uA 0=(yP bw):=by rfl)(s3:gD uA 3=(yP b):=by rfl)(s5:gD uA 5=.int .i64 j:=by rfl):(Code.region 6 (rg f31 6) true).wp prog Q ⟨uA,uD⟩ w:=by
 refine rH S 17 g (λR hQ hn=>?_);refine tK hQ 0 g ?_;refine tK hQ 1 g ?_;refine tK hQ 2 g ?_;refine tK hQ 3 g ?_;refine tK hQ 5 g ?_;refine tK hQ 7 g ?_;refine tK hQ 8 g ?_;refine tK hQ 9 g ?_;refine tK hQ 10 g ?_;refine tK hQ 11 g ?_;refine rF 4 12 (λK hK=>?_) (λK hK=>?_)
 .have f:=u _ (.inl rfl);go_simp;refine hK.out _ _ g (λ_=>?_)
  try simp only[Act.put]
  refine rF 6 12 (λK hK=>?_) (λK hK=>?_)
  .go_simp;go_at_call 55;refine(k _ (.inl rfl)).mono ?_;rintro e w1 ⟨vw,rfl,a,d⟩;refine hK.out _ _ a (λ_=>?_)
   try simp only[Act.put]
   refine rO 12 (λK hK=>?_);go_simp;refine hK.out _ _ (i _ _ a) (λ_=>?_)
   try simp only[Act.put]
   obtain⟨g',m',c',w',hr,a,hk,hf,c,hX⟩:=l _ _ _ (r _ _ d);refine rB 13 hr a ?_;refine tK hQ 14 a ?_;refine tK hQ 15 a ?_;refine rO 16 (λK hK=>?_);go_simp;refine hK.out _ _ c (λ_=>?_)
   try simp only[Act.put]
   exact rD (hn (h _ _ _ _ hX _ uQ))
  .go_simp;refine hK.out _ _ (i _ _ g) (λ_=>?_)
   try simp only[Act.put]
   refine rO 6 (λK hK=>?_);go_simp;go_at_call 55;refine(k _ (.inr rfl)).mono ?_;rintro e w1 ⟨vw,rfl,a,d⟩;refine hK.out _ _ a (λ_=>?_)
   try simp only[Act.put]
   obtain⟨g',m',c',w',hr,a,hk,hf,c,hX⟩:=l _ _ _ (m _ _ d);refine rB 13 hr a ?_;refine tK hQ 14 a ?_;refine tK hQ 15 a ?_;refine rO 16 (λK hK=>?_);go_simp;refine hK.out _ _ c (λ_=>?_)
   try simp only[Act.put]
   exact rD (hn (h _ _ _ _ hX _ uQ))
 .go_simp;refine hK.out _ _ (i _ _ g) (λ_=>?_)
  try simp only[Act.put]
  refine rO 4 (λK hK=>?_);have f:=u _ (.inr rfl);go_simp;refine hK.out _ _ (i _ _ g) (λ_=>?_)
  try simp only[Act.put]
  refine rO 6 (λK hK=>?_);go_simp;go_at_call 55;refine(k _ (.inr rfl)).mono ?_;rintro e w1 ⟨vw,rfl,a,d⟩;refine hK.out _ _ a (λ_=>?_)
  try simp only[Act.put]
  obtain⟨g',m',c',w',hr,a,hk,hf,c,hX⟩:=l _ _ _ (m _ _ d);refine rB 13 hr a ?_;refine tK hQ 14 a ?_;refine tK hQ 15 a ?_;refine rO 16 (λK hK=>?_);go_simp;refine hK.out _ _ c (λ_=>?_)
  try simp only[Act.put]
  exact rD (hn (h _ _ _ _ hX _ uQ))
theorem Kd(Q:Exit->Act->World->Prop)(S:World->Prop)(P:Nat->Prop)(X:World->Nat->Nat->Nat->Prop)(b bw:Nat)(o:Int)(m:Value)(w:World)(g:S w.drew)(i:∀V O,S V->S (V.alloc O))(hc:∀V,S V->V.cell? (yA b 1)=some (.int .i64 o))(p:w.drew.cell? (yA bw 6)=some m)(n:∀O,(w.alloc O).cell? (yA bw 6)=some m)(l:Calls prog 33 #[.int .i64 o,.int .i64 200] w.drew λe w'=>∃k:Nat,e=.returned (.int .i64 k)/\P k/\w.drew=w')(j:∀k:Nat,P k->∃g' m' c' w',(Builtin.append_ #[34,34] 34 #[m,.slice (yS w.heap.size 0) 1 1]).run prog (w.drew.alloc (.cells #[.int .i64 k] 3))=.ok (.slice (yS g' 0) m' c') w'/\S w'/\w'.cell? (yA bw 6)=some m/\w'.frozen? (yA bw 6)=false/\S (w'.setCell (yA bw 6) (.slice (yS g' 0) m' c'))/\X (w'.setCell (yA bw 6) (.slice (yS g' 0) m' c')) g' m' c')(h:∀(V:World)(k g' m' c':Nat),X V g' m' c'->∀uB,uP uA uB [49,50,51,52,53,54,55,56,57,58,59,60] []->Q .normal ⟨uB,uD⟩ V)(hz:uA.size=65:=by rfl)(s0:gD uA 0=(yP bw):=by rfl)(s4:gD uA 4=(yP b):=by rfl):(Code.region 18 (rg f18 18) true).wp prog Q ⟨uA,uD⟩ w:=by
 refine rH S 13 g (λR hQ hn=>?_);refine tK hQ 0 g ?_;refine tK hQ 1 g ?_;refine tK hQ 2 g ?_;refine tK hQ 3 g ?_;refine tK hQ 5 g ?_;refine tK hQ 6 g ?_;refine rF 4 7 (λK hK=>?_) (λK hK=>?_)
 .have f:=p;go_simp;refine hK.out _ _ g (λ_=>?_)
  try simp only[Act.put]
  refine rO 7 (λK hK=>?_);go_simp;go_at_call 33;refine l.mono ?_;rintro e w1 ⟨k,rfl,d,rfl⟩;refine hK.out _ _ g (λ_=>?_)
  try simp only[Act.put]
  refine rO 8 (λK hK=>?_);go_simp;refine hK.out _ _ (i _ _ g) (λ_=>?_)
  try simp only[Act.put]
  obtain⟨g',m',c',w',hr,a,hk,hf,c,hX⟩:=j k d;refine rB 9 hr a ?_;refine tK hQ 10 a ?_;refine tK hQ 11 a ?_;refine rO 12 (λK hK=>?_);go_simp;refine hK.out _ _ c (λ_=>?_)
  try simp only[Act.put]
  exact rD (hn (h _ k _ _ _ hX _ uQ))
 .go_simp;go_at_call 33;refine l.mono ?_;rintro e w1 ⟨k,rfl,d,rfl⟩;refine hK.out _ _ g (λ_=>?_)
  try simp only[Act.put]
  refine rF 4 8 (λK hK=>?_) (λK hK=>?_)
  .have f:=p;go_simp;refine hK.out _ _ g (λ_=>?_)
   try simp only[Act.put]
   refine rO 8 (λK hK=>?_);go_simp;refine hK.out _ _ (i _ _ g) (λ_=>?_)
   try simp only[Act.put]
   obtain⟨g',m',c',w',hr,a,hk,hf,c,hX⟩:=j k d;refine rB 9 hr a ?_;refine tK hQ 10 a ?_;refine tK hQ 11 a ?_;refine rO 12 (λK hK=>?_);go_simp;refine hK.out _ _ c (λ_=>?_)
   try simp only[Act.put]
   exact rD (hn (h _ k _ _ _ hX _ uQ))
  .go_simp;refine hK.out _ _ (i _ _ g) (λ_=>?_)
   try simp only[Act.put]
   refine rO 4 (λK hK=>?_);have f:=n (.cells #[.int .i64 k] 3);go_simp;refine hK.out _ _ (i _ _ g) (λ_=>?_)
   try simp only[Act.put]
   obtain⟨g',m',c',w',hr,a,hk,hf,c,hX⟩:=j k d;refine rB 9 hr a ?_;refine tK hQ 10 a ?_;refine tK hQ 11 a ?_;refine rO 12 (λK hK=>?_);go_simp;refine hK.out _ _ c (λ_=>?_)
   try simp only[Act.put]
   exact rD (hn (h _ k _ _ _ hX _ uQ))
end
section
theorem Ms:Tryz.pinned.checked.prog.mainIs=some (true,("a5bdd69e9582746949c8e84eed0d6134fc226438f06422e11e389a3d5ab4b345":String).toList):=kR
theorem Je:true=Tryz.pinned.checked.prog.looks []:=kR
end
end Go.Proofs.YtapijhhmjjplmaaGreatDoor

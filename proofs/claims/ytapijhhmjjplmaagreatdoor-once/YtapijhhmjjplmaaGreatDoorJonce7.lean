import Derived.Test.YtapijhhmjjplmaaGreatDoorJonce5
import Derived.Test.YtapijhhmjjplmaaGreatDoorJonce6
namespace Go.Proofs.YtapijhhmjjplmaaGreatDoor
set_option linter.all false
set_option maxRecDepth 100000
set_option maxHeartbeats 4000000
open Go.Proofs.Tryz
section
open Go.RowKit Go.Maps Go.Sort Go.Shelf
theorem LA(m:Nat):AnyZ.SortsIn prog Tryz.sortedN_ren Fence.wide m:=
  ⟨λblk off a ss W hH b c=>callsIn_wide.2 (AnyM.slices_Sort_string Tryz.sortN blk off a ss W hH b c),
   λp a W=>callsIn_wide.2 (AnyM.slices_Sort_string_none Tryz.sortN p a W)⟩
theorem A3(a:Option Nat)(W:World):Calls prog 234 #[.map a] W λe w'=>e=.returned (.func (.func 275) #[] #[yP W.heap.size])/\w'=W.alloc (.cells #[.map a] 272):=
 (callsIn_wide (n:=5)).1 (AnyZ.keys_in Tryz.keysN Fence.wide 5 trivial rfl a W)
theorem tN{H:Type}(b k:Nat)(i:DataW H)(R:Value->Option (DataW H×List MemPlace))(w:World)(g:w.ownsMap prog 9 R b k i)(j:Maps.size i<=maxLen)(f:Maps.size i*16<=140737488355328):
  Calls prog 233 #[.func (.func 275) #[] #[yP w.heap.size]] (w.alloc (.cells #[.map (some b)] 272)) λe w'=>∃(v:Value)(ss:List (List UInt8)),e=.returned v/\ss.Perm (strKeys i)/\
   w'.ownsRow (w.alloc (.cells #[.map (some b)] 272)).heap.size 9 1 v ss.length ((ss.mergeSort (λx y=>decide (x<=y))).map encStr)/\Below (w.alloc (.cells #[.map (some b)] 272)).heap.size (w.alloc (.cells #[.map (some b)] 272)) w':=by
 have d:=g.lt
 have c:SeqGives Fence.wide 2 prog 275 #[yP w.heap.size] encStr (λss=>ss.Perm (strKeys i)) (Maps.size i) (w.alloc (.cells #[.map (some b)] 272)):=
  AnyZ.keys_gives (ρ:=Tryz.keysN_ren) {Tryz.keysN with} Fence.wide _ trivial rfl oM w.heap.size b k i _ sI sI (by
   obtain⟨es,a,hb,Ft,hs,hD⟩:=g
   exact⟨es,a,(rd _ _ b d).trans hb,Ft,hs,hD⟩)
 have h:=AnyZ.sorted_in Tryz.sortedN Fence.wide 5 trivial trivial trivial trivial rfl oM (LA _) (enters_of func274 kR rfl) 275 #[yP w.heap.size] trivial (enters_of func275 kR rfl) _ _ j f _ c;refine((callsIn_wide (n:=5)).1 h).mono ?_;rintro e w' ⟨v,ss,h1,h2,h3,-,h4⟩;exact⟨v,ss,h1,h2,h3,h4⟩
end
section
theorem QD:Rows.onceRow.wf (OpenSpec.ofChange Rows.onceSpec)=true:=kR
theorem Ep:(Rows.onceRow.inPlace==prog.inPlace 11)=true:=kR
theorem ye:(Rows.onceRow.unfollowed==prog.unfollowed 11)=true:=kR
theorem BT:(Rows.onceRow.recurses==prog.recurses 11)=true:=kR
theorem Kg:(Rows.onceRow.named==prog.varsNamed 11)=true:=kR
theorem BA:namedTie prog Rows.onceRow.named Rows.onceSpec.vars=true:=kR
theorem sr:prog.funcNamed "keepsake/keepsakekeep.Once"=some 11:=kR
theorem Ia:joinedFacts prog 11 Tryz.f11 Rows.onceSpec Rows.onceRow=true:=by
 unfold joinedFacts
 rw[QD,vS,Ag,BA,Ep,ye,BT,Kg]
 kernel_rfl
end
end Go.Proofs.YtapijhhmjjplmaaGreatDoor

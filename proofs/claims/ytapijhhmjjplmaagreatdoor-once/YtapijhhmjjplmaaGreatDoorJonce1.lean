import Derived.Below
import Derived.BigQuiet
import Derived.BigRegion
import Derived.Carry
import Derived.ChangeKeysEq
import Derived.Deep.AppendLies
import Derived.Deep.DeepCutAuto
import Derived.Deep.MidRow
import Derived.Deep.OwnRows
import Derived.Deep.QuietTactic
import Derived.Deep.RegionHeld3
import Derived.Deep.RegionLaw
import Derived.Deep.RegionWith
import Derived.Deep.Slices
import Derived.Deep.WholeRow
import Derived.DeepKeys4
import Derived.Defers
import Derived.Great.BuildSlice
import Derived.Great.Walk
import Derived.Ground.GgzProg
import Derived.Ground.SlgmProg
import Derived.JoinedOf
import Derived.LaidEql
import Derived.LaidHandle
import Derived.LaidLaws
import Derived.LaidMore
import Derived.Laws.BitsAllLaws
import Derived.Laws.CopyRow
import Derived.Laws.IdiomCopy
import Derived.Laws.IdiomStrings
import Derived.Laws.LoneSync
import Derived.Laws.NewBlocks
import Derived.Laws.OwnMore
import Derived.Laws.Pointers
import Derived.Laws.RangeAny
import Derived.Laws.ResultCell
import Derived.Laws.Rows
import Derived.Laws.StructEq
import Derived.Lay
import Derived.Lib.AppendStr
import Derived.Lib.Builder
import Derived.Lib.FrozenHead2
import Derived.Lib.SliceRun
import Derived.Lib.UnsafeStr
import Derived.LoopN
import Derived.Maps.AppendAt
import Derived.Maps.Own
import Derived.Maps.OwnOps
import Derived.Maps.OwnSet
import Derived.Maps.RangeWalk
import Derived.OpenShut
import Derived.ProofKit
import Derived.RegionCalls
import Derived.RegionTactic
import Derived.RowKitTokens
import Derived.SevenTiedAt
import Derived.Shelf.LaysM
import Derived.Shelf.SlIter.Nil
import Derived.Shelf.SortM.Plain
import Derived.Shelf.SortM.SortNone
import Derived.Shelf.Strconv.Clone
import Derived.Shelf.Strings.Repeat
import Derived.Shelf.Strings.Split
import Derived.SizedLaws
import Derived.Sort.KeysCollected
import Derived.Stop.Asserts
import Derived.Stop.Joined
import Derived.Tactics
import Derived.Tactics2
import Derived.WalkKit
import Derived.WalkMore
import Derived.WalkSpells
import Derived.Test.YtapijhhmjjplmaaGreatDoorProg
namespace Go.Proofs.YtapijhhmjjplmaaGreatDoor
set_option linter.all false
set_option maxRecDepth 100000
set_option maxHeartbeats 4000000
open Go.Proofs.Tryz
theorem cK (w:World)(o:Obj){r:Nat}(h:r<w.heap.size):(w.alloc o).heap[r]?=w.heap[r]?:=by
 show (w.heap.push o)[r]?=w.heap[r]?
 rw [Array.getElem?_push,if_neg (Nat.ne_of_lt h)]
theorem OU (w:World)(o:Obj)(r:Nat)(h:r<w.heap.size):(w.alloc o).heap[r]?=w.heap[r]?:=cK w o h
theorem pA:(∀(α:Type)(l:List α)(i:Nat)(x:α),l.toArray.setIfInBounds i x=(l.set i x).toArray)∧(∀(α:Type)(x y:α)(l:List α),(y::l).set 0 x=x::l)∧(∀(α:Type)(x y:α)(l:List α)(n:Nat),(y::l).set (n+1) x=y::l.set n x):=⟨fun _ _ _ _=>List.setIfInBounds_toArray ..,fun _ _ _ _=>rfl,fun _ _ _ _ _=>rfl⟩
theorem Nv {P:Program}{md:Region.Mode}{ops:Array Oper}{Q:Exit→Act→World→Prop}{S:World→Prop}{fuel:Nat}{listed:Array Bool}{a:Act}{w:World}(i:Nat)(oi:Oper)(v:Value)(hQ:∀ c a d v w,Q (.panic c) (Act.put a d v) w→Q (.panic c) a w)(hy:∀ V,S V→(execOp a.eval oi).run P V=.ok (.value v) V)(hS:S w)(h:wpAnyH P md ops Q S fuel (listed.setIfInBounds i true) (a.put oi.dst v) w)(hi:ops[i]?=some oi:=by rfl)(hs:Region.noSelect ops=true:=by kernel_rfl)(hf:Region.free md ops listed i=true:=by kernel_rfl)(hr:(Region.ready md ops listed).contains i=true:=by kernel_rfl)(hw:Region.wanted oi (yielded ops a.tmps)=true:=by rfl):wpAnyH P md ops Q S (fuel+1) listed a w:=wpAnyH_take hi hs hf hr (fun _ _ _ h=>hQ _ _ _ _ _ h) (.inl ⟨hw,hy⟩) hS h
theorem RR {P:Program}{md:Region.Mode}{ops:Array Oper}{Q:Exit→Act→World→Prop}{S:World→Prop}{fuel:Nat}{listed:Array Bool}{a:Act}{w:World}(i:Nat)(oi:Oper)(hQ:∀ c a d v w,Q (.panic c) (Act.put a d v) w→Q (.panic c) a w)(hS:S w)(h:wpAnyH P md ops Q S fuel (listed.setIfInBounds i true) (a.put oi.dst undef) w)(hi:ops[i]?=some oi:=by rfl)(hs:Region.noSelect ops=true:=by kernel_rfl)(hf:Region.free md ops listed i=true:=by kernel_rfl)(hr:(Region.ready md ops listed).contains i=true:=by kernel_rfl)(hw:Region.wanted oi (yielded ops a.tmps)=false:=by rfl):wpAnyH P md ops Q S (fuel+1) listed a w:=wpAnyH_take hi hs hf hr (fun _ _ _ h=>hQ _ _ _ _ _ h) (.inr ⟨hw,rfl⟩) hS h
theorem Ry {P:Program}{md:Region.Mode}{ops:Array Oper}{Q:Exit→Act→World→Prop}{S:World→Prop}{fuel:Nat}{listed:Array Bool}{a:Act}{w:World}(i:Nat)(o:Oper)(h:∀ K':Act→World→Prop,Shut (∀ a w,S w→(S w→wpAnyH P md ops Q S fuel (listed.setIfInBounds i true) a w)→K' a w)→if Region.wanted o (yielded ops a.tmps)=true then Oper.wp P o a w K' Q else K' (a.put o.dst undef) w)(ho:ops[i]?=some o:=by rfl)(hr:Region.ready md ops listed=[i]:=by kernel_rfl):wpAnyH P md ops Q S (fuel+1) listed a w:=wpAnyH_ready hr (by simp) (AllReadyH.cons ho h AllReadyH.nil)
theorem cG {w:World}{g j:Nat}{cs:Array Value}{t:TypeId}{fr:Nat×Nat}(h:w.heap[g]?=some (.cells cs t fr)):w.cell? ⟨g,j,none⟩=cs[j]?:=cell_of_row _ _ _ _ _ _ h
theorem mZ:∀(x:Bool) (w:World),(Op.unary .not (.bool x)).run prog w=.ok (.bool (!x)) w:=fun _ _=>rfl
theorem yH:∀w,(binOp BinOp.neq 92 .nilIface .nilIface).run prog w=.ok (.bool false) w:=fun w=>by rfl
theorem Mf:∀(fn:Fn) (first cap:Array Value) (w:World),(Instr.makeFunc fn first cap).run prog w=.ok (.func fn first cap) w:=fun _ _ _ _=>rfl
def IC (n:Nat):Code→Option (Array Oper)
 |.region k o _=>if k=n then some o else none
 |.seq a b=>match IC n a with|some o=>some o|none=>IC n b
 |.cond _ a b=>match IC n a with|some o=>some o|none=>IC n b
 |.block _ a=>IC n a
 |.loop a=>IC n a
 |.rangeFunc _ _ a b=>match IC n a with|some o=>some o|none=>IC n b
 |.scope a=>IC n a
 |_=>none
def rg (f:Func)(n:Nat):Array Oper:=(f.body.bind (IC n)).getD #[]
def ev (A:Array Value):Operand→Value:=Act.eval ⟨A,[]⟩
def gD (A:Array Value)(n:Nat):Value:=A.getD n undef
def sT:Array Value→List (Nat×Value)→Array Value
 |A,[]=>A
 |A,(n,v)::l=>sT (A.setIfInBounds n v) l
section
variable {P:Program}{md:Region.Mode}{ops:Array Oper}{Q:Exit→Act→World→Prop}{S:World→Prop}{k n:Nat}{l:Array Bool}{A:Array Value}{D:List Deferred}{w:World}{v:Value}{d:Tmp}{e:Option Tmp}{op:Op}{ty:TypeId}{pos:String}{af:Array Edge}{g:Option (Nat×Bool)}
@[go_sem] theorem RE (A n):ev A (.tmp n)=gD A n:=rfl
@[go_sem] theorem RN (A n):ev A (.const n)=n:=rfl
@[go_sem] theorem RA (A n):ev A (.global n)=.pointer (some ⟨n,0,none⟩):=rfl
@[go_sem] theorem Rz (A n):ev A (.func n)=.func (.func n) #[] #[]:=rfl
@[go_sem] theorem Pm (A:Array Value)(n:Nat)(v:Value)(h:n<A.size):gD (A.setIfInBounds n v) n=v:=by simp [gD,Array.getD,h]
@[go_sem] theorem MF (A:Array Value)(n m:Nat)(v:Value)(h:n≠m):gD (A.setIfInBounds n v) m=gD A m:=by
 simp only [gD,Array.getD_eq_getD_getElem?]
 rw [Array.getElem?_setIfInBounds_ne h]
theorem A7:Act.eval ⟨A,D⟩=ev A:=by funext x;cases x<;>rfl
theorem yG {j x:Nat}{o:Op}{t:TypeId}{p:String}{a:Array Edge}{b:Bool}{g':Option (Nat×Bool)}(hj:ops[j]?=some ⟨some x,o,t,p,a,g'⟩)(hx:gD A x=.bool b)(hs:x<A.size):yielded ops A j=some b:=by
 unfold yielded
 rw [hj]
 simp only [Option.bind_some]
 rw [Array.getElem?_eq_getElem hs]
 have e:A[x]=.bool b:=by rw [←hx];simp [gD,Array.getD,hs]
 rw [e]
theorem wY {j x:Nat}{o:Op}{t:TypeId}{p:String}{a:Array Edge}{b c:Bool}{g':Option (Nat×Bool)}(hj:ops[j]?=some ⟨some x,o,t,p,a,g'⟩)(hx:gD A x=.bool b)(hs:x<A.size):Region.wanted ⟨e,op,ty,pos,af,some (j,c)⟩ (yielded ops A)=(b==c):=by
 show (yielded ops A j==some c)=_
 rw [yG hj hx hs]
 cases b<;>cases c<;>rfl
theorem wN {j x:Nat}{o:Op}{t:TypeId}{p:String}{a:Array Edge}{b c r:Bool}{g':Option (Nat×Bool)}(hj:ops[j]?=some ⟨some x,o,t,p,a,g'⟩)(hx:gD A x=.bool b)(hs:x<A.size)(hb:(b==c)=r):Region.wanted ⟨e,op,ty,pos,af,some (j,c)⟩ (yielded ops A)=r:=(wY hj hx hs).trans hb
theorem tK (hQ:∀ c a d v w,Q (.panic c) (Act.put a d v) w→Q (.panic c) a w)(i:Nat)(hS:S w)(h:wpAnyH P md ops Q S k (l.setIfInBounds i true) ⟨A.setIfInBounds d v,D⟩ w)(hi:ops[i]?=some ⟨some d,op,ty,pos,af,g⟩:=by rfl)(hv:∀ V,S V→(execOp (ev A) ⟨some d,op,ty,pos,af,g⟩).run P V=.ok (.value v) V:=by intro V hV;first|(go_simp;first|done|rfl)|(have q:=hc V hV;go_simp;first|done|rfl))(hk:(Region.noSelect ops&&Region.free md ops l i&&(Region.ready md ops l).contains i)=true:=by kernel_rfl)(hw:Region.wanted ⟨some d,op,ty,pos,af,g⟩ (yielded ops A)=true:=by first|exact wN (by rfl) (by go_simp;rfl) (by go_simp) (by rfl)|rfl):wpAnyH P md ops Q S (k+1) l ⟨A,D⟩ w:=by
 simp only [Bool.and_eq_true] at hk
 exact wpAnyH_take hi hk.1.1 hk.1.2 hk.2 (fun _ _ _ h=>hQ _ _ _ _ _ h) (.inl ⟨hw,by rw [A7];exact hv⟩) hS h
theorem tO (hQ:∀ c a d v w,Q (.panic c) (Act.put a d v) w→Q (.panic c) a w)(i:Nat)(hS:S w)(h:wpAnyH P md ops Q S k (l.setIfInBounds i true) ⟨A.setIfInBounds d undef,D⟩ w)(hi:ops[i]?=some ⟨some d,op,ty,pos,af,g⟩:=by rfl)(hk:(Region.noSelect ops&&Region.free md ops l i&&(Region.ready md ops l).contains i)=true:=by kernel_rfl)(hw:Region.wanted ⟨some d,op,ty,pos,af,g⟩ (yielded ops A)=false:=by exact wN (by rfl) (by go_simp;rfl) (by go_simp) (by rfl)):wpAnyH P md ops Q S (k+1) l ⟨A,D⟩ w:=by
 simp only [Bool.and_eq_true] at hk
 exact wpAnyH_take hi hk.1.1 hk.1.2 hk.2 (fun _ _ _ h=>hQ _ _ _ _ _ h) (.inr ⟨hw,rfl⟩) hS h
theorem tM (hQ:∀ c a d v w,Q (.panic c) (Act.put a d v) w→Q (.panic c) a w)(i b o:Nat)(C:Array Value){t:TypeId}{x:Operand}{dd:TypeDesc}(hR:∀V,S V→V.rangeAt b o C.toList)(hu:P.underlying t=some dd)(hn:(P.info? t).map (·.size)=some C.toList.length)(hS:S w)(h:wpAnyH P md ops Q S k (l.setIfInBounds i true) ⟨A.setIfInBounds d (.agg C),D⟩ w)(hi:ops[i]?=some ⟨some d,.load t x,ty,pos,af,g⟩:=by rfl)(hx:ev A x=.pointer (some ⟨b,o,none⟩):=by go_simp)(hd:dd.isRow=true:=by rfl)(hk:(Region.noSelect ops&&Region.free md ops l i&&(Region.ready md ops l).contains i)=true:=by kernel_rfl)(hw:Region.wanted ⟨some d,.load t x,ty,pos,af,g⟩ (yielded ops A)=true:=by first|exact wN (by rfl) (by go_simp;rfl) (by go_simp) (by rfl)|rfl):wpAnyH P md ops Q S (k+1) l ⟨A,D⟩ w:=by
 simp only [Bool.and_eq_true] at hk
 have hy:=yieldsIf_load_mid (P:=P) (ops:=ops) (S:=S) (op:=⟨some d,.load t x,ty,pos,af,g⟩) (a:=⟨A,D⟩) hw t x rfl b o (by rw [A7];exact hx) C.toList dd hR hu hd hn
 rw [Array.toArray_toList] at hy
 exact wpAnyH_take hi hk.1.1 hk.1.2 hk.2 (fun _ _ _ h=>hQ _ _ _ _ _ h) hy hS h
theorem rO (i:Nat)(h:∀K:Act→World→Prop,Shut (∀a w,S w→(S w→wpAnyH P md ops Q S k (l.setIfInBounds i true) a w)→K a w)→Oper.upon P ⟨e,op,ty,pos,af,g⟩ ⟨A,D⟩ K Q ((execOp (ev A) ⟨e,op,ty,pos,af,g⟩).run P w))(ho:ops[i]?=some ⟨e,op,ty,pos,af,g⟩:=by rfl)(hr:Region.ready md ops l=[i]:=by kernel_rfl)(hw:Region.wanted ⟨e,op,ty,pos,af,g⟩ (yielded ops A)=true:=by first|exact wN (by rfl) (by go_simp;rfl) (by go_simp) (by rfl)|rfl):wpAnyH P md ops Q S (k+1) l ⟨A,D⟩ w:=wpAnyH_ready hr (by simp) (AllReadyH.cons ho (fun K hK=>by rw [if_pos hw];unfold Oper.wp;rw [A7];exact h K hK) AllReadyH.nil)
theorem rW (i:Nat)(h:∀K:Act→World→Prop,Shut (∀a w,S w→(S w→wpAnyH P md ops Q S k (l.setIfInBounds i true) a w)→K a w)→Oper.wp P ⟨e,op,ty,pos,af,g⟩ ⟨A,D⟩ w K Q)(ho:ops[i]?=some ⟨e,op,ty,pos,af,g⟩:=by rfl)(hr:Region.ready md ops l=[i]:=by kernel_rfl)(hw:Region.wanted ⟨e,op,ty,pos,af,g⟩ (yielded ops A)=true:=by rfl):wpAnyH P md ops Q S (k+1) l ⟨A,D⟩ w:=wpAnyH_ready hr (by simp) (AllReadyH.cons ho (fun K hK=>by rw [if_pos hw];exact h K hK) AllReadyH.nil)
theorem rB (i:Nat){x y:Operand}{ts:Array TypeId}{u v':Value}{w':World}(ha:(Builtin.append_ ts ty #[u,v]).run P w=.ok v' w')(hS:S w')(h:wpAnyH P md ops Q S k (l.setIfInBounds i true) ⟨A.setIfInBounds d v',D⟩ w')(ho:ops[i]?=some ⟨some d,.call ⟨.builtin .append,#[x,y],ts⟩,ty,pos,af,none⟩:=by rfl)(hx:ev A x=u:=by go_simp)(hy:ev A y=v:=by go_simp)(hr:Region.ready md ops l=[i]:=by kernel_rfl):wpAnyH P md ops Q S (k+1) l ⟨A,D⟩ w:=rW i (fun K hK=>by
 unfold Oper.wp execOp
 simp only [resolve,invoke,builtin,Sem.run_bind,Sem.run_pure,Result.andThen_ok,List.map_toArray,List.map_cons,List.map_nil,A7,hx,hy]
 rw [ha]
 exact hK.out _ _ hS (fun _=>h)) ho hr
theorem rS (i b:Nat)(C:Array Value){t tt:TypeId}{x y:Operand}{old:Array Value}(hg:w.heap[b]?=some (.cells old tt (0,0)))(hS:S (w.setRow b C))(h:wpAnyH P md ops Q S k (l.setIfInBounds i true) ⟨A,D⟩ (w.setRow b C))(ho:ops[i]?=some ⟨none,.store t x y,ty,pos,af,none⟩:=by rfl)(hx:ev A x=.pointer (some ⟨b,0,none⟩):=by go_simp)(hy:ev A y=.agg C:=by go_simp)(hi:(P.info? t).map (·.size)=some C.size:=by kernel_rfl)(hold:old.size=C.size:=by rfl)(h1:C.all (·.oneCell')=true:=by kernel_rfl)(hr:Region.ready md ops l=[i]:=by kernel_rfl):wpAnyH P md ops Q S (k+1) l ⟨A,D⟩ w:=rW i (fun _ hK=>wp_store_row (o:=⟨none,.store t x y,ty,pos,af,none⟩) t x y rfl b C (by rw [A7];exact hx) (by rw [A7];exact hy) tt old hg hi hold h1 (hK.out _ _ hS (fun _=>h))) ho hr
theorem rD (h:Q .normal ⟨A,D⟩ w)(hr:Region.ready md ops l=[]:=by kernel_rfl):wpAnyH P md ops Q S k l ⟨A,D⟩ w:=wpAnyH_done hr h _
theorem rH (S:World→Prop)(z:Nat)(hS:S w.drew)(h:∀R:Exit→Act→World→Prop,(∀c a d v w,R (.panic c) (Act.put a d v) w→R (.panic c) a w)→(∀{A D w},Q .normal ⟨A,D⟩ w→R .normal ⟨A,D⟩ w)→wpAnyH P .any ops R S z (Array.replicate z false) ⟨A,D⟩ w.drew)(hm:P.follows .mixedOrders=true:=by kernel_rfl)(hz:ops.size=z:=by kernel_rfl):(Code.region n ops true).wp P Q ⟨A,D⟩ w:=by
 subst hz
 exact wp_region_noPanic (wp_region_held_drew hm hS (fun _=>h _ (fun _ _ _ _ _ h=>h) (fun h=>h)))
theorem rF (i j:Nat){e' op' ty' pos' af' g'}(h1:∀K:Act→World→Prop,Shut (∀a w,S w→(S w→wpAnyH P md ops Q S k (l.setIfInBounds i true) a w)→K a w)→Oper.upon P ⟨e,op,ty,pos,af,g⟩ ⟨A,D⟩ K Q ((execOp (ev A) ⟨e,op,ty,pos,af,g⟩).run P w))(h2:∀K:Act→World→Prop,Shut (∀a w,S w→(S w→wpAnyH P md ops Q S k (l.setIfInBounds j true) a w)→K a w)→Oper.upon P ⟨e',op',ty',pos',af',g'⟩ ⟨A,D⟩ K Q ((execOp (ev A) ⟨e',op',ty',pos',af',g'⟩).run P w))(ho:ops[i]?=some ⟨e,op,ty,pos,af,g⟩:=by rfl)(ho':ops[j]?=some ⟨e',op',ty',pos',af',g'⟩:=by rfl)(hr:Region.ready md ops l=[i,j]:=by kernel_rfl)(hw:Region.wanted ⟨e,op,ty,pos,af,g⟩ (yielded ops A)=true:=by rfl)(hw':Region.wanted ⟨e',op',ty',pos',af',g'⟩ (yielded ops A)=true:=by rfl):wpAnyH P md ops Q S (k+1) l ⟨A,D⟩ w:=wpAnyH_ready hr (by simp) (AllReadyH.cons ho (fun K hK=>by rw [if_pos hw];unfold Oper.wp;rw [A7];exact h1 K hK) (AllReadyH.cons ho' (fun K hK=>by rw [if_pos hw'];unfold Oper.wp;rw [A7];exact h2 K hK) AllReadyH.nil))
theorem rG (i j:Nat){e' op' ty' pos' af' g'}(h1:∀K:Act→World→Prop,Shut (∀a w,S w→(S w→wpAnyH P md ops Q S k (l.setIfInBounds i true) a w)→K a w)→Oper.upon P ⟨e,op,ty,pos,af,g⟩ ⟨A,D⟩ K Q ((execOp (ev A) ⟨e,op,ty,pos,af,g⟩).run P w))(h2:∀K:Act→World→Prop,Shut (∀a w,S w→(S w→wpAnyH P md ops Q S k (l.setIfInBounds j true) a w)→K a w)→Oper.wp P ⟨e',op',ty',pos',af',g'⟩ ⟨A,D⟩ w K Q)(ho:ops[i]?=some ⟨e,op,ty,pos,af,g⟩:=by rfl)(ho':ops[j]?=some ⟨e',op',ty',pos',af',g'⟩:=by rfl)(hr:Region.ready md ops l=[i,j]:=by kernel_rfl)(hw:Region.wanted ⟨e,op,ty,pos,af,g⟩ (yielded ops A)=true:=by rfl)(hw':Region.wanted ⟨e',op',ty',pos',af',g'⟩ (yielded ops A)=true:=by rfl):wpAnyH P md ops Q S (k+1) l ⟨A,D⟩ w:=wpAnyH_ready hr (by simp) (AllReadyH.cons ho (fun K hK=>by rw [if_pos hw];unfold Oper.wp;rw [A7];exact h1 K hK) (AllReadyH.cons ho' (fun K hK=>by rw [if_pos hw'];exact h2 K hK) AllReadyH.nil))
def sX:Array Value→(Nat→Value)→List Nat→Array Value
 |A,_,[]=>A
 |A,x,n::l=>sX (A.setIfInBounds n (x n)) x l
def uC (A B:Array Value)(L:List Nat):Prop:=B.size=A.size∧∀m,L.contains m=false→gD B m=gD A m
def uP (A B:Array Value)(L:List Nat)(M:List (Nat×Value)):Prop:=uC A B L∧∀p∈M,gD B p.1=p.2
theorem uR {L:List Nat}:uC A A L:=⟨rfl,fun _ _=>rfl⟩
theorem uS {B:Array Value}{L:List Nat}{n:Nat}(h:uC A B L)(hn:L.contains n=true:=by rfl):uC A (B.setIfInBounds n v) L:=⟨by rw [Array.size_setIfInBounds];exact h.1,fun m hm=>by rw [MF _ _ _ _ (fun e=>by rw [e,hm] at hn;cases hn)];exact h.2 m hm⟩
theorem uQ {B:Array Value}{L:List Nat}{M:List (Nat×Value)}(h:uC A B L:=by repeat' (first|refine uS ?_|exact uR))(h2:∀p∈M,gD B p.1=p.2:=by go_simp):uP A B L M:=⟨h,h2⟩
theorem O6 {A B:Array Value}(hs:A.size=B.size)(h:∀m,gD A m=gD B m):A=B:=by
 refine Array.ext hs fun i h1 h2=>?_
 have:=h i
 simpa [gD,Array.getD,h1,h2] using this
theorem Gf {x:Nat→Value}:∀{L:List Nat}{A:Array Value},(sX A x L).size=A.size∧∀m,gD (sX A x L) m=if L.contains m=true∧m<A.size then x m else gD A m
 |[],A=>⟨rfl,fun m=>by simp [sX]⟩
 |n::L,A=>by
  have h:=Gf (x:=x) (L:=L) (A:=A.setIfInBounds n (x n))
  refine ⟨by unfold sX;rw [h.1,Array.size_setIfInBounds],fun m=>?_⟩
  unfold sX
  rw [h.2 m,Array.size_setIfInBounds]
  by_cases e:n=m
  ·subst e
   by_cases hs:n<A.size
   ·simp [hs,Pm]
   ·have:A.setIfInBounds n (x n)=A:=by unfold Array.setIfInBounds;rw [dif_neg hs]
    simp [hs,this]
  ·rw [MF _ _ _ _ e]
   have e':¬m=n:=fun q=>e q.symm
   simp [e']
theorem uE {B:Array Value}{L:List Nat}{M:List (Nat×Value)}(h:uP A B L M):sT (sX A (gD B) L) M=B:=by
 have e:sX A (gD B) L=B:=O6 (Gf.1.trans h.1.1.symm) (fun m=>by
  rw [Gf.2 m]
  by_cases hm:L.contains m=true
  ·by_cases hs:m<A.size
   ·rw [if_pos ⟨hm,hs⟩]
   ·rw [if_neg (fun q=>hs q.2)]
    have hB:¬m<B.size:=by rw [h.1.1];exact hs
    simp [gD,Array.getD,hs,hB]
  ·rw [if_neg (fun q=>hm q.1),h.1.2 m (by simpa using hm)])
 rw [e]
 have:∀M:List (Nat×Value),(∀p∈M,gD B p.1=p.2)→sT B M=B:=fun M=>by
  induction M with
  |nil=>intro _;rfl
  |cons p l ih=>
   intro hM
   obtain ⟨n,v⟩:=p
   have hv:gD B n=v:=hM (n,v) (by simp)
   have e2:B.setIfInBounds n v=B:=by
    subst hv
    refine O6 (by simp) fun m=>?_
    by_cases q:n=m
    ·subst q
     by_cases hs:n<B.size
     ·rw [Pm _ _ _ hs]
     ·unfold Array.setIfInBounds;rw [dif_neg hs]
    ·rw [MF _ _ _ _ q]
   unfold sT
   rw [e2]
   exact ih (fun p hp=>hM p (by simp [hp]))
 exact this M h.2
theorem nU {B A':Array Value}{L:List Nat}{M:List (Nat×Value)}(hB:uP A B L M)(h:Q .normal ⟨A',D⟩ w)(e:sT (sX A (gD B) L) M=A':=by simp only [sX,sT,pA];rfl):NoPanic Q .normal ⟨B,D⟩ w:=by
 rw [uE hB] at e
 subst e
 exact h
end
open Go.RowKit Go.Maps
theorem eX {α:Type}(t:α):∃x,x=t:=⟨t,rfl⟩
theorem oM {p:Prop}(h:p:=by omega):p:=h
theorem kR {p:Prop}(h:p:=by kernel_rfl):p:=h
theorem dE {p:Prop}(h:p:=by decide):p:=h
theorem sI {p:Prop}(h:p:=by simp):p:=h
theorem hD {p:Prop}(h:p):Hid p:=h
theorem oS {p:Prop}(h:p:=by first|omega|(simp;omega)|simp):p:=h
theorem mS {p:Prop}(h:p:=by simp [intOf];try omega):p:=h
theorem bE {p:Prop}(h:p:=by (repeat' (first|exact Below.refl _ _|assumption|exact Hid.out (by assumption)|refine Below.drew ?_|refine Aq ?_ _|refine Below.alloc ?_ oS _|refine Below.setCell ?_ oS _|refine cC ?_ oS _))):p:=h
abbrev cO:=@Nat.le_refl
abbrev dM:=@Go.heap_alloc_new
abbrev dw:=@Go.RowKit.Below.refl
abbrev gf:=@Array.length_toList
abbrev gE:=@Go.heap_setCell_same
abbrev ir:=@List.length_append
abbrev fH:=@Go.frozen_of_row
abbrev gh:=@Go.bodyPost_ret
abbrev dj:=@if_neg
abbrev dq:=@if_pos
abbrev mM:=@ByteArray.size_extract
abbrev sN:=@List.take_succ_eq_append_getElem
abbrev iF:=@List.length_map
abbrev fP:=@Nat.zero_le
abbrev kQ:=@Go.wp_region_noPanic
abbrev kX:=@Array.getElem?_toList
abbrev jO:=@List.size_toArray
abbrev lY:=@ByteArray.size_append
abbrev pI:=@List.getElem?_eq_getElem
abbrev pK:=@List.take_of_length_le
abbrev lq:=@Go.heap_setCell_other
abbrev jX:=@decide_eq_true
abbrev ny:=@Nat.lt_of_lt_of_le
abbrev lW:=@decide_eq_false
abbrev ja:=@Go.setRow_heap
abbrev mX:=@List.getElem_mem
abbrev pr:=@Go.block_lt_of_cell
abbrev mY:=@List.length_cons
abbrev qf:=@List.length_singleton
abbrev kM:=@Option.some.inj
abbrev kb:=@Go.Proofs.Tryz.underlying131
abbrev wU:=@Array.getElem?_setIfInBounds
abbrev iM:=@Go.Calls.mono
abbrev zo:=@Go.run_loadVar_row
abbrev lB:=@Go.results_tmp2
abbrev ve:=@List.append_assoc
abbrev nZ:=@Go.World.cell?_drew
abbrev Jr:=@Go.RowKit.Below.setCell
abbrev rI:=@Go.World.ownsRow.alloc
abbrev pH:=@Go.IntKind.wrap_i64
abbrev Ce:=@congrArg
abbrev l7:=@Go.setRow_other
abbrev tC:=@beq_eq_false_iff_ne
abbrev vY:=@Go.World.cell?_alloc_some
abbrev NM:=@Go.AllReadyH.cons
abbrev su:=@Go.wpList_load_mid
abbrev lZ:=@Nat.le_trans
abbrev DO:=@Go.run_callFunc_extern
abbrev qA:=@List.map_append
abbrev BO:=@Array.toArray_toList
abbrev rd:=@Go.RowKit.Below.heap_alloc
abbrev vj:=@List.map_cons
abbrev A6:=@List.getElem?_cons_succ
abbrev nS:=@Nat.zero_add
abbrev Dv:=@List.getD_eq_getElem?_getD
abbrev A9:=@List.drop_eq_nil_of_le
abbrev RG:=@Go.RowKit.Below.drew
abbrev vx:=@List.length_take
abbrev vk:=@Go.wpList_load_row
abbrev Ew:=@List.getElem?_toArray
abbrev FD:=@List.getElem?_append_left
abbrev PE:=@decide_eq_false_iff_not
abbrev F8:=@List.getElem?_append_right
abbrev Aw:=@List.getElem_map
abbrev A5:=@List.foldl_append
abbrev BH:=@Go.Proofs.Tryz.underlying366
abbrev Cw:=@List.map_singleton
abbrev Bj:=@Go.results_cell_row
abbrev OO:=@Go.AllReadyH.nil
abbrev DL:=@List.filter_cons
abbrev Ab:=@List.nil_append
abbrev NC:=@Array.all_eq_true_iff_forall_mem
abbrev IW:=@List.map_toArray
abbrev FF:=@Go.ByteArray.toList_eq
abbrev Px:=@Go.wpAnyH_ready
abbrev JQ:=@Array.size_setIfInBounds
abbrev Dj:=@Bool.and_eq_true
abbrev CO:=@List.append_nil
abbrev yE:=@Go.Proofs.Tryz.underlying134
abbrev F0:=@Go.wpList_append_lies
abbrev Nt:=@Array.getElem?_eq_getElem
abbrev QU:=@Go.wp_region_held_drew
abbrev NG:=@List.map_congr_left
abbrev Po:=@Go.RowKit.Hid.out
abbrev ER:=@Go.wpList_store_row
abbrev Lc:=@List.flatMap_cons
abbrev FE:=@of_decide_eq_true
abbrev FH:=@List.drop_zero
abbrev EP:=@decide_eq_true_iff
abbrev II:=@List.getElem?_eq_none
abbrev Ka:=@List.set_append_right
abbrev NN:=@List.drop_append_of_le_length
abbrev Ny:=@List.take_append_of_le_length
abbrev OR:=@List.eq_nil_of_length_eq_zero
abbrev Q6:=@Go.World.cell?_alloc_lt
abbrev xC:=@Go.u32_xor_nat
abbrev KH:=@Go.run_convert_bytes_back
abbrev xV:=@Go.Proofs.Tryz.underlying9
abbrev IZ:=@List.mem_singleton
abbrev MY:=@List.eq_of_mem_replicate
abbrev Kz:=@List.length_replicate
abbrev zc:=@Go.rounds_succ
abbrev KI:=@List.length_filter_le
abbrev KE:=@Nat.not_lt_zero
abbrev LQ:=@List.flatMap_append
abbrev K8:=@List.take_take
abbrev RL:=@List.append_cancel_left
abbrev Ow:=@List.setIfInBounds_toArray
abbrev K7:=@Go.Sem.run_bind
abbrev J6:=@List.map_nil
abbrev Fc:=@Nat.lt_or_ge
abbrev O1:=@ByteArray.data_extract
abbrev Pj:=@Array.getElem?_eq_none
abbrev FA:=@Go.DataW.held.inj
abbrev Iz:=@Go.IntKind.wrap_u8
abbrev KN:=@Go.wpAnyH_take
abbrev Ql:=@Go.Result.andThen_ok
abbrev JH:=@List.getElem?_map
abbrev NJ:=@List.getElem?_take_of_lt
abbrev Jl:=@Go.run_append_own_at
abbrev NQ:=@Go.WideMaps.keyOf_string_mk
abbrev Rx:=@Go.NoPanic.normal
abbrev Lf:=@List.set_cons_zero
abbrev JO:=@List.range_succ
abbrev Jk:=@Go.leaves_cons
abbrev LY:=@Nat.mod_eq_of_lt
abbrev Gb:=@Nat.add_comm
abbrev OT:=@Int.tdiv_eq_ediv_of_nonneg
abbrev Ba:=@Go.info_parts
abbrev LR:=@Go.World.ownsRow_nil
abbrev OC:=@List.drop_eq_getElem_cons
abbrev Gg:=@Go.Proofs.Tryz.underlying302
abbrev Of:=@List.getElem_append_right
abbrev OV:=@List.mem_of_find?_eq_some
abbrev Oy:=@Go.Proofs.Tryz.underlying119
abbrev KV:=@List.length_set
abbrev Nz:=@Go.run_typeAssert_lacksB
abbrev IE:=@List.find?_cons
abbrev MJ:=@UInt8.toNat_ofNat'
abbrev LZ:=@List.getElem?_take
abbrev Np:=@List.cons_append
abbrev K0:=@Nat.le_succ
abbrev Nx:=@List.mem_cons_of_mem
abbrev N0:=@Go.Great.wpList_allocTo
abbrev Gp:=@Go.cell_of_row
abbrev Rn:=@Go.wpAnyH_done
abbrev NB:=@Go.World.news_of_block
abbrev Nu:=@List.mem_map_of_mem
abbrev OK:=@List.getElem_replicate
abbrev P3:=@Nat.mod_two_eq_zero_or_one
abbrev PW:=@Array.toList_setIfInBounds
abbrev MX:=@List.ext_getElem
abbrev Lx:=@List.length_drop
abbrev NP:=@List.take_length
abbrev NH:=@List.getElem?_drop
abbrev JS:=@Go.wp_buildSlice
abbrev Nw:=@List.find?_eq_none
abbrev Mp:=@Go.Proofs.Tryz.underlying133
abbrev PL:=@Go.Proofs.Tryz.underlying356
abbrev NE:=@List.drop_drop
abbrev Pr:=@List.mem_of_mem_take
abbrev Pk:=@List.dropLast_concat
abbrev Ot:=@List.length_dropLast
abbrev Rk:=@Go.yieldsIf_load_mid
abbrev QT:=@List.replicate_append_replicate
abbrev N3:=@List.nodup_cons
abbrev L5:=@List.mem_filter
abbrev NS:=@List.length_range
abbrev QJ:=@Go.Sem.run_pure
abbrev Hi:=@Prod.mk.inj
abbrev P5:=@Go.World.cell?_setCell_far
abbrev La:=@Go.Proofs.Tryz.underlying272
abbrev Qb:=@List.sum_cons
abbrev QK:=@List.getLast?_eq_some_getLast
abbrev RI:=@List.filter_eq_nil_iff
abbrev Pz:=@Nat.lt_of_succ_lt_succ
abbrev QW:=@List.dropLast_concat_getLast
abbrev N7:=@Array.ext_getElem?
abbrev P6:=@List.pairwise_cons
abbrev OB:=@List.filter_append
abbrev O3:=@Nat.min_eq_left
abbrev Qx:=@Nat.two_pow_add_eq_or_of_lt
abbrev I0:=@Go.Proofs.Tryz.underlying5
abbrev Qm:=@Go.results_tmp
abbrev NT:=@List.sum_append
abbrev Pt:=@Nat.le_of_lt
abbrev P4:=@List.mem_append_right
abbrev IA:=@Nat.mod_lt
abbrev PY:=@List.pairwise_map
abbrev Q9:=@Go.Proofs.Tryz.underlying261
abbrev Ru:=@Array.toList_extract
abbrev PT:=@List.reverse_reverse
abbrev Q3:=@Bool.or_eq_false_iff
abbrev zq:=@Ne.symm
abbrev PC:=@List.mem_of_getElem?
abbrev QZ:=@List.extract_eq_take_drop
abbrev N6:=@List.take_zero
abbrev Oe:=@Go.wp_loop_rounds
abbrev Ox:=@Go.Great.fill_whole
abbrev O8:=@Go.step_append_lies
abbrev PU:=@List.replicate_succ
abbrev PG:=@ByteArray.size_data
abbrev PK:=@Go.World.ownsRow.cells
abbrev Qg:=@List.getElem_append_left
abbrev NY:=@Nat.add_zero
abbrev PX:=@Nat.sub_zero
abbrev MR:=@Go.results_none
abbrev Lu:=@Go.results_tmp3
abbrev Ov:=@Go.heap_alloc2_new
abbrev Nn:=@Go.run_call_load
abbrev PN:=@List.mem_cons_self
abbrev Qv:=@Go.World.rangeAt_drew
abbrev PS:=@Go.World.ownsMap_made
abbrev N9:=@List.find?_some
abbrev Rh:=@Array.setIfInBounds_setIfInBounds
abbrev NO:=@Go.Proofs.Tryz.underlying115
abbrev PR:=@List.sum_singleton
abbrev PZ:=@Array.foldl_toList
abbrev Nr:=@Go.Proofs.Tryz.underlying374
abbrev Rl:=@Go.Proofs.Tryz.underlying376
abbrev NZ:=@Go.Proofs.Tryz.underlying362
abbrev Qn:=@Nat.add_sub_cancel_left
abbrev NX:=@Go.Proofs.Tryz.underlying114
abbrev Qf:=@Go.DataW.weights_mem_each
abbrev Mw:=@Go.u32_and_nat
abbrev QH:=@Go.run_storeCells_at
abbrev PV:=@List.reverse_cons
abbrev P2:=@decide_eq_true_eq
abbrev PD:=@List.ext_getElem?
abbrev RD:=@Bool.eq_false_iff
abbrev PJ:=@Go.run_underlying
abbrev Qh:=@List.drop_take
abbrev Pp:=@Nat.sub_self
abbrev N1:=@List.mem_map
abbrev ND:=@Go.wpList_plain
abbrev Nq:=@Go.Proofs.Tryz.underlying92
abbrev NF:=@List.map_map
abbrev Jp:=@And.intro
abbrev Q2:=@List.take_append_drop
abbrev NV:=@Go.Proofs.Tryz.underlying32
abbrev Pu:=@Go.Proofs.Tryz.underlying35
abbrev PF:=@Go.Lit.string.injEq
abbrev PB:=@List.any_eq_true
abbrev QF:=@List.mem_of_mem_drop
abbrev Rj:=@Go.wpList_append_own_at
abbrev P8:=@List.mem_append_left
abbrev OS:=@List.mem_cons
abbrev RH:=@Go.World.rangeAt_setCells_apart
abbrev OW:=@Go.Proofs.Tryz.underlying458
abbrev Pf:=@ByteArray.ext
abbrev P0:=@Go.World.var?_cell
abbrev NK:=@Go.Proofs.Tryz.underlying3
abbrev QA:=@bne_eq_false_iff_eq
abbrev QR:=@List.getElem_of_mem
abbrev Rv:=@Go.Lib.run_unsafeSliceData_row
abbrev Ri:=@List.perm_ext_iff_of_nodup
abbrev Rm:=@List.nodup_iff_pairwise_ne
abbrev Rq:=@Int.tmod_eq_emod_of_nonneg
abbrev Ps:=@List.map_set
abbrev Qu:=@List.getElem_range
abbrev QG:=@List.map_replicate
abbrev NW:=@Nat.zero_mul
abbrev QN:=@List.set_cons_succ
abbrev Qw:=@List.append_of_mem
abbrev P7:=@List.filter_filter
abbrev Rp:=@List.mem_or_eq_of_mem_set
abbrev Rr:=@ByteArray.extract_extract
abbrev Ra:=@List.find?_append
abbrev Rc:=@List.nodup_append
abbrev PH:=@Go.Proofs.Tryz.underlying192
abbrev PO:=@Go.Proofs.Tryz.underlying244
abbrev Qd:=@Go.Proofs.Tryz.underlying193
abbrev P1:=@Prod.mk.injEq
abbrev QQ:=@List.le_antisymm
abbrev Qc:=@Go.IntKind.wrap_u32
abbrev Q7:=@List.mem_append
abbrev Qa:=@Option.map_some
abbrev Qt:=@dif_pos
abbrev Qq:=@Go.Oper.upon_value
abbrev QC:=@Go.Proofs.Tryz.underlying48
abbrev O2:=@Go.u32_or_nat
abbrev P9:=@Go.DataW.trod_int
abbrev QE:=@List.mem_range
abbrev Rb:=@List.lt_irrefl
abbrev RC:=@Bool.not_false
abbrev QP:=@Go.wpList_buildTo
abbrev PI:=@Go.RowKit.run_makeMap
abbrev yP (b:Nat):Value:=.pointer (some ⟨b,0,none⟩)
abbrev yA (b o:Nat):Addr:=⟨b,o,none⟩
abbrev yS (b o:Nat):Option Addr:=some ⟨b,o,none⟩
end Go.Proofs.YtapijhhmjjplmaaGreatDoor

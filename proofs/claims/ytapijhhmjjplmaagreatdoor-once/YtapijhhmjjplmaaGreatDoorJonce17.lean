import Derived.Test.YtapijhhmjjplmaaGreatDoorJonce5
import Derived.Test.YtapijhhmjjplmaaGreatDoorJonce15
import Derived.Test.YtapijhhmjjplmaaGreatDoorJonce16
namespace Go.Proofs.YtapijhhmjjplmaaGreatDoor
set_option linter.all false
set_option maxRecDepth 100000
set_option maxHeartbeats 4000000
open Go.Proofs.Tryz
variable {s t r last raw:ByteArray}{d:cX}{l img:List ByteArray}{i k n seq chain kind c at_ bd m:Nat}{a:Nat→Addr}{S:Nat→Prop}{T T':cS}{v:Value}{w w':World}
section
open Go.RowKit
theorem qN:∀l:List UInt8,(Lib.index l [47]= -1/\∀b∈l,b≠47)\/∃i:Nat,Lib.index l [47]=(i:Int)/\l=l.take i++47::l.drop (i+1)/\∀b∈l.take i,b≠47
 |[]=>.inl ⟨by simp[Lib.index],sI⟩
 |b::l=>by
  by_cases h:b=47
  .subst h;refine .inr ⟨0,?_,sI,sI⟩;rw[Lib.index];simp[List.isPrefixOf]
  have hp:([47]:List UInt8).isPrefixOf (b::l)=false:=by simp[List.isPrefixOf,zq h]
  have a:Lib.index (b::l) [47]=if Lib.index l [47]== -1 then-1 else Lib.index l [47]+1:=by rw[Lib.index,hp];simp
  rcases qN l with⟨h1,h2⟩|⟨i,h1,h2,h3⟩
  .refine .inl ⟨by rw[a,h1];rfl,λc hc=>?_⟩;rcases List.mem_cons.1 hc with rfl|hc
   .exact h
   exact h2 c hc
  refine .inr ⟨i+1,?_,?_,?_⟩
  .rw[a,h1,dj (by rw[beq_iff_eq];omega)];omega
  .rw[List.take_succ_cons,List.drop_succ_cons,Np,<-h2]
  intro c hc;rw[List.take_succ_cons]at hc;rcases List.mem_cons.1 hc with rfl|hc
  .exact h
  exact h3 c hc
theorem Dg{l:List UInt8}(a:l=l.take i++47::l.drop (i+1))(c:∀b∈l.take i,b≠47):gV l=l.take i::gV (l.drop (i+1)):=by
 have h:=yR (l.take i) (l.drop (i+1)) c;rw[<-a]at h;exact h
theorem uK:∀(k:Nat)(l:List UInt8),((gV l).length<=k+1->Lib.splitK [47] 0 k l=gV l)/\(k+1<(gV l).length->(Lib.splitK [47] 0 k l).length=k+1)
 |0,l=>by
  rcases qN l with⟨-,h2⟩|⟨i,-,h2,h3⟩
  .rw[qF l h2];exact⟨λ_=>rfl,λh=>by simp at h⟩
  rw[Dg h2 h3];refine⟨λh=>?_,λ_=>rfl⟩;have:=List.length_pos_iff.2 (yx (l.drop (i+1)));rw[mY]at h;omega
 |k+1,l=>by
  rcases qN l with⟨h1,h2⟩|⟨i,h1,h2,h3⟩
  .have e:Lib.splitK [47] 0 (k+1) l=[l]:=by unfold Lib.splitK;rw[h1];rfl
   rw[e,qF l h2];exact⟨λ_=>rfl,λh=>by simp at h⟩
  have e:Lib.splitK [47] 0 (k+1) l=l.take i::Lib.splitK [47] 0 k (l.drop (i+1)):=by
   conv=>lhs;unfold Lib.splitK
   rw[h1,dj (by rw[beq_iff_eq];omega)];simp
  have hc:=Dg h2 h3;obtain⟨a,b⟩:=uK k (l.drop (i+1));rw[e,hc,mY];refine⟨λh=>?_,λh=>?_⟩
  .rw[a (by omega)]
  rw[mY,b (by omega)]
theorem DF:∀l:List UInt8,(gV l).length<=l.length+1
 |[]=>by simp[gV]
 |b::l=>by
  have:=DF l;unfold gV;split
  .simp;omega
  .split
   .simp
   .rename_i hx;rw[hx]at this;simp at this⊢;omega
theorem Fl(s:ByteArray):((pW s).length<=8->Lib.splitB m8 0 (min 9 (s.size+1)-1) s=pW s)/\(8<(pW s).length->8<(Lib.splitB m8 0 (min 9 (s.size+1)-1) s).length):=by
 have hd:=Lib.splitB_data m8 0 (min 9 (s.size+1)-1) s;have hl:(Lib.splitB m8 0 (min 9 (s.size+1)-1) s).length=(Lib.splitK [47] 0 (min 9 (s.size+1)-1) (bl s)).length:=by have:=Ce List.length hd;rw[iF]at this;exact this
 obtain⟨h1,h2⟩:=uK (min 9 (s.size+1)-1) (bl s);have h3:=DF (bl s);rw[dO]at h3;rw[zK]
 have hb:Lib.splitK [47] 0 (min 9 (s.size+1)-1) (bl s)=gV (bl s)->Lib.splitB m8 0 (min 9 (s.size+1)-1) s=pW s:=λe=>by
  have a:=hd.trans e;unfold pW;rw[<-a,NF]
  conv=>lhs;rw[<-List.map_id (Lib.splitB m8 0 (min 9 (s.size+1)-1) s)]
  apply NG;intro x _;exact(Dk x).symm
 refine⟨λh=>hb (h1 oM),λh=>?_⟩;rw[hl];by_cases h9:(gV (bl s)).length<=min 9 (s.size+1)-1+1
 .rw[h1 h9];exact h
 rw[h2 (by omega)];omega
theorem kz(s:ByteArray)(w:World)(a:s.size<=1000000):Calls prog 158 #[.string s] w λe w'=>e=.returned (.string s)/\Below w.heap.size w w':=by
 have HC:Hid (Calls prog 229 #[.string s] w λe w'=>e=.returned (.string s)/\Below w.heap.size w w'):=Tryz.stringslite_Clone s w oM;go_enter func158,ntmps158
 go_wp2_with (go_at_call 229;refine HC.mono ?_;rintro e w1 ⟨rfl,hb⟩;have HB:Hid (Below w.heap.size w w1):=hb;clear hb)
 go_ret;exact⟨rfl,HB⟩
end
section
open Go.RowKit Go.Maps
theorem si(d:cX)(k:Nat)(s:ByteArray):(d.write k s).safe=d.safe:=by
 unfold cX.write;split
 .exact m6 d
 exact m6 d
theorem rM(d:cX)(k:Nat)(s:ByteArray):(d.write k s).wait.length<=d.wait.length+1:=by
 unfold cX.write;split
 .rw[qo];omega
 show(d.op.wait++[(k,s)]).length<=_;rw[ir,qo];simp
theorem Ar(d:cX):d.flush.wait.length<=d.wait.length:=by
 unfold cX.flush;split
 .rw[qo];omega
 exact fP _
theorem BW(d:cX):d.flush.safe.length=d.safe.length:=by
 unfold cX.flush;split
 .rw[m6]
 show(cL d.op.wait d.op.safe).length=_;rw[eo,m6]
end
section
open Go.RowKit
def gt(w:World)(v:Value)(l:List ByteArray):Prop:=(l=[]/\∃ao c,v=.slice ao 0 c)\/∃g c,v=.slice (yS g 0) l.length c/\l.length<=c/\g<w.heap.size/\∀j (hj:j<l.length),w.cell? (yA g j)=some (.string l[j])
theorem gt.at(h:gt w v l):je w v l:=by
 rcases h with h|⟨g,c,h1,-,h3,h4⟩
 .exact .inl h
 exact .inr ⟨g,c,h1,h3,h4⟩
theorem gt.on(h:gt w v l)(b:Below w.heap.size w w'):gt w' v l:=by
 rcases h with h|⟨g,c,h1,h2,h3,h4⟩
 .exact .inl h
 exact .inr ⟨g,c,h1,h2,ny h3 b.size,λj hj=>by rw[b.cell h3];exact h4 j hj⟩
def FJ(w:World)(a:Nat->Addr)(s:ByteArray)(e:Ending)(w':World):Prop:=∃v c,e=.returned (.tuple #[v,fg a c])/\Below w.heap.size w w'/\((∃l,cZ s=some l/\c=0/\gt w' v l)\/(cZ s=none/\c=5))
def mq(w:World)(a:Nat->Addr)(s:ByteArray)(e:Ending)(w':World):Prop:=∃v c,e=.returned (.tuple #[v,fg a c])/\Below w.heap.size w w'/\((∃l,cZ s=some l/\c=0/\gt w' v l)\/(cZ s=none/\c=5/\v=.slice none 0 0))
theorem mq.weak{e:Ending}(h:mq w a s e w'):FJ w a s e w':=by
 obtain⟨v,c,h1,h2,h3|⟨h3,h4,-⟩⟩:=h
 .exact⟨v,c,h1,h2,.inl h3⟩
 exact⟨v,c,h1,h2,.inr ⟨h3,h4⟩⟩
theorem mq.bad(b:Below w.heap.size w w')(h:cZ s=none):mq w a s (.returned (.tuple #[.slice none 0 0,rv (a 4)])) w':=⟨_,5,rfl,b,.inr ⟨h,rfl,rfl⟩⟩
theorem rN(s:ByteArray)(w:World)(a:Nat->Addr)(m:Int)(hE:w.cell? ⟨4,0,none⟩=some (rv (a 4)))(hm:w.cell? ⟨15,0,none⟩=some (.int .i64 m))(hs:s.size<=262144):
  Calls prog 89 #[.string s] w λe w'=>mq w a s e w':=by
 have a2:=mZ;by_cases h0:s.size=0
 .have e:=j9 h0;subst e;go_enter func89,ntmps89
  go_wp2
  refine gh (lB rfl _ _ _) rfl ?_;exact⟨_,0,rfl,dw _ _,.inl ⟨[],rfl,rfl,.inl ⟨rfl,_,_,rfl⟩⟩⟩
 have a4:s.toList.isEmpty=false:=by
  rw[FF]
  cases hp:s.data.toList with
  |nil=>exact absurd (by rw[<-dO];unfold bl;rw[hp];rfl) h0
  |cons _ _=>rfl
 have A:=Tryz.strings_SplitN s m8 9 m w oM hm dE oM oM;obtain⟨t,D⟩:=Fl s
 have B:∀x∈pW s,x.size<=1000000:=λx hx=>by
  unfold pW at hx;obtain⟨y,hy,rfl⟩:=List.mem_map.1 hx
  have h1:∀l:List UInt8,∀y∈gV l,y.length<=l.length:=by
   intro l
   induction l with
   |nil=>intro y hy;simp[gV]at hy;rw[hy];simp
   |cons b l ih=>
    intro y hy;unfold gV at hy;split at hy
    .rcases List.mem_cons.1 hy with rfl|hy
     .simp
     .have:=ih y hy;simp;omega
    split at hy
    .simp at hy;rw[hy];simp
    rename_i x r hx;rcases List.mem_cons.1 hy with rfl|hy
    .have:=ih x (by rw[hx];simp);simp;exact this
    have:=ih y (by rw[hx];simp[hy]);simp;omega
  have:=h1 _ y hy;rw[dO]at this;show(lb y).size<=_;rw[<-dO,Oi];omega
 obtain⟨L,hL⟩:=eX (Lib.splitB m8 0 (min 9 (s.size+1)-1) s);have U:L.length<=9:=by rw[hL];refine lZ (Lib.splitB_length_le _ _ _ _) ?_;omega
 have E:L.length<=min 9 (s.size+1):=by rw[hL];refine lZ (Lib.splitB_length_le _ _ _ _) ?_;omega
 rw[<-hL]at A t D;obtain⟨N,hN⟩:=eX (min 9 (s.size+1));rw[<-hN]at A E;have q:=A;have z:=hD q;have K:=pr hE;have v:∀w':World,w'.heap[w.heap.size]?=some (.cells (Lib.cellsOf L N) 9 (0,0))->∀j (hj:j<L.length),w'.cell? (yA w.heap.size j)=some (.string L[j]):=λw' h j hj=>by rw[cG h];unfold Lib.cellsOf;rw[Ew,FD (by simpa using hj),JH,pI hj];rfl
 have g:=hD v;by_cases h8:8<L.length
 .have HP:Hid (cZ s=none):=by show _=_;unfold cZ;rw[dj h0,dj];rintro⟨-,h⟩;have:=t h;rw[this]at h8;omega
  obtain⟨W1,d⟩:=eX (w.alloc (.cells (Lib.cellsOf L N) 9));rw[<-d]at z;have o:Below w.heap.size w W1:=by rw[d];exact(dw _ _).alloc (cO _) _
  have c:=hD o;have J:W1.cell? ⟨4,0,none⟩=some (rv (a 4)):=by rw[o.cell K];exact hE
  obtain⟨ev,f⟩:=eX (rv (a 4));rw[<-f]at J;have F:=hD f;clear A q t D B v hL hN d o hE hm f g;go_enter func89,ntmps89
  go_wp2_with (go_at_call 156;refine z.mono ?_;rintro e w1 ⟨rfl,rfl⟩)
  go_quiet (fail)
  go_wp2
  refine gh (lB rfl _ _ _) rfl ?_;rw[F.out];exact mq.bad (cR c _) HP
 have G:=t (Nat.le_of_not_lt λh=>h8 (D h));have Q:=hD G;rw[<-G]at B;have Y:=hD B;obtain⟨n,hn⟩:=eX (L.length);have HN:=hD hn;rw[<-hn]at z E h8 U;obtain⟨W1,d⟩:=eX (w.alloc (.cells (Lib.cellsOf L N) 9));rw[<-d]at z;have c:Hid (Below w.heap.size w W1):=by show Below _ _ _;rw[d];exact(dw _ _).alloc (cO _) _
 have P:Hid (W1.heap[w.heap.size]?=some (.cells (Lib.cellsOf L N) 9 (0,0))):=by show _=_;rw[d];exact dM w _
 have HE:=hD hE;clear A q t D B v hL hN d hE hm G hn;go_enter func89,ntmps89
 go_wp2_with (go_at_call 156;refine z.mono ?_;rintro e w1 ⟨rfl,rfl⟩)
 go_loopw [17] (λiv wr=>∃k:Nat,k<=n/\iv=.int .i64 k/\Hid (wr.heap[w.heap.size]?=some (.cells (Lib.cellsOf L N) 9 (0,0)))/\Hid (Below w.heap.size w wr)/\Hid (∀j (hj:j<L.length),j<k->yF L[j]=true)) (λi _=>n-(intOf i).toNat)
 .exact⟨0,oM,rfl,P,c,λj _ h=>absurd h (KE _)⟩
 clear P c;obtain⟨k,hk,rfl,HR,HB,HK⟩:=hrel;by_cases V:k<n
 .have M:k<L.length:=by rw[<-HN.out];exact V
  have ck:=g wr HR k M;obtain⟨x,hx⟩:=eX (L[k]);rw[<-hx]at ck;have I:=Y x (hx▸mX _);have C:=hD (sj x wr I);have X:=cm HR;cases hnm:yF x
  .rw[hnm]at C;have HP:Hid (cZ s=none):=by show _=_;unfold cZ;rw[dj h0,dj,];rintro⟨h,-⟩;have:=List.all_eq_true.1 h x (by rw[<-Q.out,hx];exact mX _);rw[hnm]at this;cases this
   obtain⟨ev,f⟩:=eX (rv (a 4));have F:=hD f;have Z:Hid (∀w1,Below wr.heap.size wr w1->w1.cell? ⟨4,0,none⟩=some ev/\Below w.heap.size w w1):=λw1 h1=>by have hb:=HB.trans (h1.mono HB.size);exact⟨by rw[f,hb.cell K];exact HE,hb⟩
   clear hnm hx HK f HE HR
   go_wp2_with (go_at_call 157;refine C.mono ?_;rintro e w1 ⟨rfl,u⟩;obtain⟨J,o⟩:=Z w1 u;have c:Hid (Below w.heap.size w w1):=o;clear u o)
   go_quiet (fail)
   go_wp2
   refine gh (lB rfl _ _ _) rfl ?_;rw[F.out];exact mq.bad (cR c _) HP
  rw[hnm]at C;have a1:Hid (∀w1,Calls prog 158 #[.string x] w1 λe w'=>e=.returned (.string x)/\Below w1.heap.size w1 w'):=λw1=>kz x w1 I
  have T:Hid (∀j (hj:j<L.length),j<k+1->yF L[j]=true):=λj hj a3=>by
   rcases Fc j k with h'|h'
   .exact HK j hj h'
   have:j=k:=oM;subst this;rw[<-hx];exact hnm
  have O:Hid (∀w1 w2,Below wr.heap.size wr w1->Below w1.heap.size w1 w2->w2.cell? (yA w.heap.size k)=some (.string x)/\w2.frozen? (yA w.heap.size k)=false/\Hid ((w2.setCell (yA w.heap.size k) (.string x)).heap[w.heap.size]?=some (.cells (Lib.cellsOf L N) 9 (0,0)))/\Hid (Below w.heap.size w (w2.setCell (yA w.heap.size k) (.string x)))):=λw1 w2 h1 h2=>by
   have hb:=h1.trans (h2.mono h1.size);have hr:w2.heap[w.heap.size]?=some (.cells (Lib.cellsOf L N) 9 (0,0)):=by rw[hb.block _ X];exact HR
   have hc:=g w2 hr k M;rw[<-hx]at hc;refine⟨hc,fH _ _ _ _ _ hr,?_,?_⟩
   .show _=_;rw[gE _ _ _ _ _ _ hr];congr 2;apply N7;intro i;rw[wU];split
    .subst i;rw[cG hr]at hc;split
     .exact hc.symm
     rename_i h;rw[Pj (by omega)]
    .rfl
   exact(HB.trans (hb.mono HB.size)).setCell (p:=(yA w.heap.size k)) (cO _) _
  clear hnm hx HK HR HB
  go_wp2_with (first|(go_at_call 157;refine C.mono ?_;rintro e w1 ⟨rfl,u⟩;have c:Hid (Below wr.heap.size wr w1):=u;clear u)|(go_at_call 158;refine(a1 _).mono ?_;rintro e w2 ⟨rfl,H⟩;obtain⟨cz,fz,S,W⟩:=O w1 w2 c H;clear H))
  go_roundw
  .exact⟨k+1,oM,by go_num,S,W,T⟩
  exact mS
 have a0:k=n:=oM;subst a0;have HP:Hid (cZ s=some L):=by show _=_;unfold cZ;rw[dj h0,<-Q.out,dq];refine⟨List.all_eq_true.2 λx hx=>?_,by have:=HN.out;omega⟩;obtain⟨j,hj,rfl⟩:=QR hx;exact HK.out j hj (by have:=HN.out;omega)
 have HV:Hid (gt wr (.slice (yS w.heap.size 0) k N) L):=.inr ⟨w.heap.size,N,by rw[<-HN.out],by rw[<-HN.out];exact E,cm HR,g wr HR⟩;clear HK HR
 go_wp2
 refine gh (lB rfl _ _ _) rfl ?_;exact⟨_,0,rfl,HB,.inl ⟨L,HP,rfl,HV⟩⟩
theorem pq(s:ByteArray)(w:World)(a:Nat->Addr)(m:Int)(b:w.cell? ⟨4,0,none⟩=some (rv (a 4)))(c:w.cell? ⟨15,0,none⟩=some (.int .i64 m))(d:s.size<=262144):
  Calls prog 89 #[.string s] w λe w'=>FJ w a s e w':=(rN s w a m b c d).mono λ_ _ h=>h.weak
end
section
open Go.RowKit Go.Maps
def zb(n:Nat):ByteArray:=⟨(List.replicate n (0:UInt8)).toArray⟩
theorem tz(n:Nat):(zb n).size=n:=by
 show(List.replicate n (0:UInt8)).toArray.size=n;simp
def fb(n:Nat):ByteArray:=⟨(oZ n).toArray⟩
theorem gL(n:Nat):(fb n).size=4:=rfl
def Ie:ByteArray:=⟨#[97,114,99,104,105,118,101,49]⟩
def lP(n:Nat):ByteArray:=Ie++fb n
def iE(n:Nat):Nat:=qX (lP n).data.toList
def iD(n:Nat):ByteArray:=lP n++fb (iE n)++zb 48
theorem pu(n:Nat):(lP n).size=12:=by unfold lP;rw[lY,gL];rfl
theorem rx(n:Nat):(lP n++fb (iE n)).size=16:=by rw[lY,pu,gL]
theorem mc(n:Nat):(iD n).size=64:=by unfold iD;rw[lY,rx,tz]
theorem zg(n:Nat):iE n<dQ:=by
 unfold iE qX dQ;omega
end
section
def Pe(l:List UInt8):Nat:=l.foldl (λv b=>256*v+b.toNat) 0
def jW(s:ByteArray):Nat:=Pe s.data.toList
theorem wO:∀(l:List UInt8)(v:Nat),l.foldl (λv b=>256*v+b.toNat) v<(v+1)*256^l.length
 |[],v=>by show v<(v+1)*1;omega
 |b::r,v=>by
  have h:=wO r (256*v+b.toNat);have hb:=b.toNat_lt;show r.foldl (λv b=>256*v+b.toNat) (256*v+b.toNat)<(v+1)*256^(r.length+1);have h2:(256*v+b.toNat+1)*256^r.length<=((v+1)*256)*256^r.length:=Nat.mul_le_mul_right _ oM;have h3:(v+1)*256^(r.length+1)=((v+1)*256)*256^r.length:=by rw[Nat.pow_succ,Nat.mul_assoc,Nat.mul_comm (256^r.length) 256]
  omega
theorem Kv(l:List UInt8):Pe l<256^l.length:=by
 have h:=wO l 0;rw[nS,Nat.one_mul]at h;exact h
theorem Db(s:ByteArray)(a:s.size<=4):(jW s:Int)<=4294967295:=by
 have h:=Kv s.data.toList;have e:s.data.toList.length=s.size:=by rw[gf,PG]
 rw[e]at h;have h2:256^s.size<=256^4:=Nat.pow_le_pow_right oM a;have h3:jW s<256^4:=ny h h2;have h4:(256:Nat)^4=4294967296:=dE;omega
theorem C1(s:ByteArray)(k:Nat)(h:k<s.size):(bl s)[k]?=some s[k]:=by
 show s.data.toList[k]?=_;rw[kX];exact Nt h
theorem He(s:ByteArray)(h:4<=s.size):(bl s).take 4=[s[0],s[1],s[2],s[3]]:=by
 apply PD;intro i;by_cases hi:i<4
 .rw[NJ hi,C1 s i (by omega)]
  match i,hi with
  |0,_=>rfl
  |1,_=>rfl
  |2,_=>rfl
  |3,_=>rfl
 rw[II (by rw[vx];omega),II (by simp;omega)]
theorem GF(s:ByteArray)(h:2<=s.size):(bl s).take 2=[s[0],s[1]]:=by
 apply PD;intro i;by_cases hi:i<2
 .rw[NJ hi,C1 s i (by omega)]
  match i,hi with
  |0,_=>rfl
  |1,_=>rfl
 rw[II (by rw[vx];omega),II (by simp;omega)]
theorem LX(s:ByteArray)(h:4<=s.size):jW (s.extract 0 4)=s[0].toNat*16777216+s[1].toNat*65536+s[2].toNat*256+s[3].toNat:=by
 have e:(s.extract 0 4).data.toList=[s[0],s[1],s[2],s[3]]:=by have:=cP s 0 4;rw[FH]at this;exact this.trans (He s h)
 unfold jW;rw[e];show 256*(256*(256*(256*0+s[0].toNat)+s[1].toNat)+s[2].toNat)+s[3].toNat=_;omega
theorem Mk(s:ByteArray)(h:2<=s.size):jW (s.extract 0 2)=s[0].toNat*256+s[1].toNat:=by
 have e:(s.extract 0 2).data.toList=[s[0],s[1]]:=by have:=cP s 0 2;rw[FH]at this;exact this.trans (GF s h)
 unfold jW;rw[e];show 256*(256*0+s[0].toNat)+s[1].toNat=_;omega
def xN(s:ByteArray):ByteArray:=s++zb ((s.size+63)/64*64-s.size)
theorem Er(s:ByteArray):(xN s).size=(s.size+63)/64*64:=by unfold xN;rw[lY,tz];omega
def yq(n kind seq:Nat):ByteArray:=⟨#[UInt8.ofNat (n/256%256),UInt8.ofNat (n%256),UInt8.ofNat (kind%256)]⟩++fb seq
def pU(seq chain kind:Nat)(t:ByteArray):Nat:=qX (fb chain++yq t.size kind seq++t).data.toList
def sB(seq chain kind:Nat)(t:ByteArray):ByteArray:=xN (yq t.size kind seq++fb (pU seq chain kind t)++t)
def dU(n:Nat):Nat:=(n+74)/64
theorem vO(n kind a:Nat):(yq n kind a).size=7:=by unfold yq;rw[lY,gL];rfl
theorem yw(b a kind:Nat)(t:ByteArray):pU b a kind t<dQ:=by
 unfold pU qX dQ;omega
theorem oI(b a kind:Nat)(t:ByteArray):(sB b a kind t).size=dU t.size*64:=by
 unfold sB dU;rw[Er,lY,lY,vO,gL];have e:7+4+t.size+63=t.size+74:=oM;rw[e]
def cV(s:ByteArray):ByteArray:=⟨(Es lw fX (fW s)).toArray⟩
theorem KX:∀l:List Nat,(l.flatMap oZ).length=4*l.length
 |[]=>rfl
 |x::r=>by rw[Lc,ir,KX r,mY];show 4+_=_;omega
theorem iB(s:ByteArray)(h:fX.length=8):(cV s).size=32:=by
 show(Es lw fX (fW s)).toArray.size=32;unfold Es;rw[jO,KX,ji _ _ _ h]
structure Ob where
 kind:Nat
 sum:ByteArray
 at_:Nat
 text:ByteArray
structure jR where
 label:ByteArray
 root:ByteArray
def cF(has:List Ob)(k:Nat)(s:ByteArray):Option Ob:=has.find? λo=>decide (o.kind=k)&&decide (o.sum=s)
theorem tE{has:List Ob}{o:Ob}(h:cF has k s=some o):o∈has/\o.kind=k/\o.sum=s:=by
 have h1:=OV h;have h2:=N9 h;simp at h2;exact⟨h1,h2⟩
theorem BB{has:List Ob}(h:cF has k s=none):∀o∈has,¬(o.kind=k/\o.sum=s):=by
 unfold cF at h;rw[Nw]at h;rintro o ho ⟨h1,h2⟩;exact h o ho (by simp[h1,h2])
theorem yj{has:List Ob}{o:Ob}(a:o∈has)(b:o.kind=k)(d:o.sum=s):(cF has k s).isSome:=by
 cases h:cF has k s with
 |none=>exact absurd ⟨b,d⟩ (BB h o a)
 |some _=>rfl
theorem fU(has more:List Ob)(k:Nat)(s:ByteArray):cF (has++more) k s=(cF has k s).or (cF more k s):=by
 unfold cF;rw[Ra]
theorem Cd{has:List Ob}{o:Ob}(h:cF has k s=some o)(more:List Ob):cF (has++more) k s=some o:=by rw[fU,h];rfl
theorem ld{has:List Ob}(h:(cF has k s).isSome=true)(more:List Ob):cF (has++more) k s=cF has k s:=by
 obtain⟨o,ho⟩:=Option.isSome_iff_exists.1 h;rw[ho];exact Cd ho more
theorem oJ(o:Ob)(k:Nat)(s:ByteArray):cF [o] k s=if o.kind=k/\o.sum=s then some o else none:=by
 unfold cF;by_cases h1:o.kind=k<;>by_cases h2:o.sum=s<;>simp[h1,h2]
def iJ(has:List Ob)(o:Ob):List Ob:=if(cF has o.kind o.sum).isSome then has else has++[o]
def du(n:Nat):Nat:=(n+95)/96
def iz(t:ByteArray)(i:Nat):ByteArray:=t.extract (4+32*i) (36+32*i)
def oO(n i:Nat):Nat:=min 96 (n-96*i)
def jJ(t:ByteArray):Option Nat:=if t.size<4 then none else if 1536<jW (t.extract 0 4)\/t.size≠4+32*du (jW (t.extract 0 4))then none else some (jW (t.extract 0 4))
theorem kA(h:jJ t=some n):n<=1536/\t.size=4+32*du n/\n=jW (t.extract 0 4)/\du n<=16:=by
 unfold jJ at h;split at h
 .cases h
 split at h
 .cases h
 rename_i h2;cases h;rw[not_or,Decidable.not_not]at h2;refine⟨oM,h2.2,rfl,?_⟩;unfold du;omega
def xv(has:List Ob)(t:ByteArray)(n i:Nat):Bool:=match cF has 1 (iz t i)with
 |some o=>decide (o.text.size=oO n i)
 |none=>false
def o7(has:List Ob)(t:ByteArray):Bool:=match jJ t with
 |some n=>(List.range (du n)).all (xv has t n)
 |none=>false
theorem CU{has:List Ob}:o7 has t=true↔∃n,jJ t=some n/\∀i,i<du n->xv has t n i=true:=by
 unfold o7
 cases h:jJ t with
 |none=>simp
 |some n=>simp
def iI:List ByteArray->ByteArray
 |[]=>⟨#[]⟩
 |x::r=>x++iI r
theorem wA(s:ByteArray):(⟨#[]⟩:ByteArray)++s=s:=by apply ej;rw[eQ];rfl
theorem qG(s:ByteArray):s++(⟨#[]⟩:ByteArray)=s:=by apply ej;rw[eQ];exact CO _
theorem iA(a b c:ByteArray):a++b++c=a++(b++c):=by apply ej;rw[eQ,eQ,eQ,eQ,ve]
theorem rA:∀a b:List ByteArray,iI (a++b)=iI a++iI b
 |[],b=>(wA _).symm
 |x::r,b=>by show x++iI (r++b)=x++iI r++iI b;rw[rA r b,iA]
theorem jy(a:List ByteArray)(x:ByteArray):iI (a++[x])=iI a++x:=by
 rw[rA];show _++(x++⟨#[]⟩)=_;rw[qG]
def LC(has:List Ob)(s:ByteArray):ByteArray:=((cF has 1 s).map (·.text)).getD ⟨#[]⟩
def Jd(has:List Ob)(t:ByteArray)(j:Nat):ByteArray:=iI ((List.range j).map λi=>LC has (iz t i))
def OI(has:List Ob)(t:ByteArray):ByteArray:=match jJ t with
 |some n=>Jd has t (du n)
 |none=>⟨#[]⟩
def MQ(has:List Ob)(s:ByteArray):ByteArray:=match cF has 2 s with
 |some o=>OI has o.text
 |none=>⟨#[]⟩
structure gS where
 name:ByteArray
 dir:Bool
 sum:ByteArray
def eG(x:gS):Nat:=if x.dir then 3 else 2
def lE(t:ByteArray):Option (gS×ByteArray):=
 if h:2<=t.size then
  if(t[0].toNat=1\/t[0].toNat=2)/\34+t[1].toNat<=t.size/\yF (t.extract 2 (2+t[1].toNat))=true then
   some (⟨t.extract 2 (2+t[1].toNat),decide (t[0].toNat=2),t.extract (2+t[1].toNat) (34+t[1].toNat)⟩,t.extract (34+t[1].toNat) t.size)
  else none
 else none
theorem jw{x:gS}(h:lE t=some (x,r)):yF x.name=true/\x.sum.size=32/\r.size+34<=t.size/\r.size+34+x.name.size=t.size:=by
 unfold lE at h;split at h
 .split at h
  .rename_i h1 h2;cases h;refine⟨h2.2.2,?_,?_,?_⟩
   .show(ByteArray.extract _ _ _).size=32;rw[mM];omega
   .rw[mM];omega
   show _+(ByteArray.extract _ _ _).size=_;rw[mM,mM];omega
  cases h
 cases h
def E2(a b:ByteArray):Bool:=decide (bl a<bl b)
def mn:Nat->ByteArray->ByteArray->Option (List gS)
 |0,_,t=>if t.size=0 then some []else none
 |f+1,last,t=>if t.size=0 then some []else match lE t with
  |none=>none
  |some (x,r)=>if E2 last x.name then(mn f x.name r).map (x:: ·)else none
theorem n0:∀(f:Nat)(last t:ByteArray),t.size<=f->mn f last t=mn t.size last t
 |0,last,t,h=>by have:t.size=0:=oM;rw[this]
 |f+1,last,t,h=>by
  by_cases h0:t.size=0
  .rw[h0];simp[mn,h0]
  obtain⟨m,hm⟩:∃m,t.size=m+1:=⟨t.size-1,oM⟩;rw[hm];unfold mn;rw[dj h0,dj h0]
  cases hl:lE t with
  |none=>rfl
  |some p=>
   obtain⟨x,r⟩:=p;have h3:=(jw hl).2.2.1;show(if _ then _ else _)=(if _ then _ else _);rw[n0 f x.name r (by omega),n0 m x.name r (by omega)]
def ig(last t:ByteArray):Option (List gS):=mn t.size last t
theorem uU(last t:ByteArray)(h:t.size=0):ig last t=some []:=by unfold ig;rw[h];simp[mn,h]
theorem u6(h:t.size≠0)(a:lE t=none):ig last t=none:=by
 unfold ig;obtain⟨m,hm⟩:∃m,t.size=m+1:=⟨t.size-1,oM⟩;rw[hm];unfold mn;rw[dj h,a]
theorem rZ{x:gS}(a:lE t=some (x,r)):ig last t=if E2 last x.name then(ig x.name r).map (x:: ·)else none:=by
 have h3:=(jw a).2.2.1;unfold ig;obtain⟨m,hm⟩:∃m,t.size=m+1:=⟨t.size-1,oM⟩;rw[hm]
 conv=>lhs;unfold mn
 rw[dj (by omega),a];show(if _ then _ else _)=_;rw[n0 m x.name r (by omega)]
def fO(t:ByteArray):Option (List gS):=ig ⟨#[]⟩ t
theorem tZ{P:ByteArray->ByteArray->List gS->Prop}(b:∀last t,t.size=0->P last t [])(d:∀last t x r l,lE t=some (x,r)->E2 last x.name=true->ig x.name r=some l->P x.name r l->P last t (x::l)):∀(f:Nat)(last t:ByteArray)(l:List gS),t.size<=f->ig last t=some l->P last t l
 |f,last,t,l,hf,h=>by
  by_cases ht:t.size=0
  .rw[uU last t ht]at h;cases h;exact b last t ht
  cases hl:lE t with
  |none=>rw[u6 ht hl]at h;cases h
  |some p=>
   obtain⟨x,r⟩:=p;have h3:=(jw hl).2.2.1;rw[rZ hl]at h;split at h
   .rename_i a
    cases hr:ig x.name r with
    |none=>rw[hr]at h;cases h
    |some l'=>
     rw[hr]at h;cases h
     cases f with
     |zero=>omega
     |succ f=>exact d last t x r l' hl a hr (tZ b d f x.name r l' oM hr)
   cases h
theorem mC{l:List gS}(h:ig last t=some l):(∀x∈l,yF x.name=true/\x.sum.size=32/\E2 last x.name=true)/\(l.map (·.name)).Pairwise (λa b=>E2 a b=true)/\34*l.length<=t.size:=by
 refine tZ (P:=λlast t l=>(∀x∈l,yF x.name=true/\x.sum.size=32/\E2 last x.name=true)/\(l.map (·.name)).Pairwise (λa b=>E2 a b=true)/\34*l.length<=t.size) ?_ ?_ _ last t l (cO _) h
 .intro last t ht;exact⟨sI,sI,sI⟩
 rintro last t x r l hl c-⟨h1,h2,h3⟩;obtain⟨a1,a2,a3,-⟩:=jw hl;refine⟨λy hy=>?_,?_,?_⟩
 .rcases List.mem_cons.1 hy with rfl|hy
  .exact⟨a1,a2,c⟩
  obtain⟨b1,b2,b3⟩:=h1 y hy;refine⟨b1,b2,?_⟩;simp only[E2,P2]at c b3⊢;exact List.lt_trans c b3
 .rw[vj,P6];refine⟨λn hn=>?_,h2⟩;obtain⟨y,hy,rfl⟩:=List.mem_map.1 hn;exact(h1 y hy).2.2
 rw[mY];omega
def DA(has:List Ob)(l:List gS):Bool:=decide (l.length<=16)&&l.all λx=>(cF has (eG x) x.sum).isSome
theorem oK{has:List Ob}{l:List gS}:DA has l=true↔l.length<=16/\∀x∈l,(cF has (eG x) x.sum).isSome=true:=by unfold DA;simp
def qu(has:List Ob)(kind:Nat)(t:ByteArray):Bool:=if kind=1 then decide (1<=t.size)&&decide (t.size<=96)else if kind=2 then o7 has t else match fO t with
 |some l=>DA has l
 |none=>false
def kN(img:List ByteArray)(at_ n:Nat):ByteArray:=iI ((img.drop at_).take n)
theorem wE(img:List ByteArray)(at_ n:Nat)(h:at_+n<img.length):kN img at_ (n+1)=kN img at_ n++img[at_+n]:=by
 unfold kN;rw[sN (by rw[Lx];omega),jy,List.getElem_drop]
theorem ke(img:List ByteArray)(a:∀s∈img,s.size=64)(at_:Nat):∀n,at_+n<=img.length->(kN img at_ n).size=64*n
 |0,_=>rfl
 |n+1,h=>by rw[wE img at_ n (by omega),lY,ke img a at_ n (by omega),a _ (mX _)];omega
def Io(raw:ByteArray)(seq chain kind n:Nat):Option (Nat×ByteArray×Nat):=if raw=sB seq chain kind (raw.extract 11 (11+n))then some (kind,raw.extract 11 (11+n),pU seq chain kind (raw.extract 11 (11+n)))else none
theorem Ef(h:Io raw seq chain kind n=some (k,t,c)):k=kind/\t=raw.extract 11 (11+n)/\c=pU seq chain kind t/\raw=sB seq chain kind t:=by
 unfold Io at h;split at h
 .rename_i h1;injection h with h;injection h with h2 h3;injection h3 with h4 h5;subst h2;subst h4;exact⟨rfl,rfl,h5.symm,h1⟩
 cases h
def jS(img:List ByteArray)(at_ seq chain:Nat):Option (Nat×ByteArray×Nat):=
 if h:at_<img.length then
  if h3:3<=img[at_].size then
   if 1000<jW (img[at_].extract 0 2)\/img[at_][2].toNat<1\/4<img[at_][2].toNat\/img.length<at_+dU (jW (img[at_].extract 0 2))then none
   else Io (kN img at_ (dU (jW (img[at_].extract 0 2)))) seq chain img[at_][2].toNat (jW (img[at_].extract 0 2))
  else none
 else none
theorem wV(a:∀s∈img,s.size=64)(h:jS img at_ seq chain=some (kind,t,c)):
  1<=kind/\kind<=4/\t.size<=1000/\at_+dU t.size<=img.length/\(kN img at_ (dU t.size)).extract 11 (11+t.size)=t/\c=pU seq chain kind t:=by
 unfold jS at h;split at h
 .rename_i h1;split at h
  .rename_i h3;split at h
   .cases h
   rename_i h4;generalize jW (img[at_].extract 0 2)=n at h h4;generalize img[at_][2].toNat=k at h h4;rw[not_or,not_or,not_or]at h4;obtain⟨a1,a2,a3,a4⟩:=h4;obtain⟨rfl,h6,h7,-⟩:=Ef h;have hs:t.size=n:=by rw[h6,mM,ke img a at_ _ (by omega)];unfold dU;omega
   rw[hs];exact⟨oM,oM,oM,oM,h6.symm,h7⟩
  cases h
 cases h
end
section
variable {has:List Ob}
abbrev zH:=ByteArray->Nat×Nat
def vV(g:zH)(x:gS):Nat×Nat:=if x.dir then g x.sum else(0,0)
def Qy(g:zH)(v:Nat×Nat)(x:gS):Nat×Nat:=(max v.1 ((vV g x).1+1),min (v.2+(vV g x).2+1) 257)
def AE(g:zH)(l:List gS):Nat×Nat:=l.foldl (Qy g) (0,0)
def Pq(g:zH)(l:List gS):Nat:=l.foldl (λv x=>max v ((vV g x).1+1)) 0
def OA(g:zH)(l:List gS):Nat:=l.foldl (λv x=>v+(vV g x).2+1) 0
theorem qc(g:zH)(l:List gS)(x:gS):AE g (l++[x])=Qy g (AE g l) x:=by simp[AE,A5]
theorem GG(g:zH)(l:List gS)(x:gS):Pq g (l++[x])=max (Pq g l) ((vV g x).1+1):=by simp[Pq,A5]
theorem FU(g:zH)(l:List gS)(x:gS):OA g (l++[x])=OA g l+(vV g x).2+1:=by simp[OA,A5]
theorem jh{α:Type}{P:List α->Prop}(h0:P [])(hs:∀l x,P l->P (l++[x]))(l:List α):P l:=by
 have h:∀m:List α,P m.reverse:=λm=>by
  induction m with
  |nil=>exact h0
  |cons x r ih=>rw[PV];exact hs _ _ ih
 have:=h l.reverse;rw[PT]at this;exact this
theorem Jo{g r:zH}(h:∀s,g s=((r s).1,min (r s).2 257))(l:List gS):AE g l=(Pq r l,min (OA r l) 257):=by
 induction l using jh with
 |h0=>rfl
 |hs l x ih=>
  rw[qc,GG,FU,ih]
  have e:vV g x=((vV r x).1,min (vV r x).2 257):=by
   unfold vV;by_cases hd:x.dir=true
   .rw[dq hd,dq hd,h]
   rw[dj hd,dj hd];rfl
  unfold Qy;rw[e];simp only[P1,true_and];omega
def mN(t:ByteArray):List gS:=(fO t).getD []
def pe(g:zH)(o:Ob):zH:=if o.kind=3 then λs=>if s=o.sum then AE g (mN o.text)else g s else g
def mW(has:List Ob):zH:=has.foldl pe (λ_=>(0,0))
def xK(g:zH)(o:Ob):zH:=if o.kind=3 then λs=>if s=o.sum then(Pq g (mN o.text),OA g (mN o.text))else g s else g
def Fv(has:List Ob):zH:=has.foldl xK (λ_=>(0,0))
theorem nu(has:List Ob)(o:Ob):mW (has++[o])=pe (mW has) o:=by simp[mW,A5]
theorem Ah(has:List Ob)(o:Ob):Fv (has++[o])=xK (Fv has) o:=by simp[Fv,A5]
theorem Kn(has:List Ob):∀s,mW has s=((Fv has s).1,min (Fv has s).2 257):=by
 induction has using jh with
 |h0=>intro s;rfl
 |hs l o ih=>
  intro s;rw[nu,Ah];unfold pe xK;by_cases hk:o.kind=3
  .rw[dq hk,dq hk];by_cases hs:s=o.sum
   .simp only[dq hs];exact Jo ih _
   simp only[dj hs];exact ih s
  rw[dj hk,dj hk];exact ih s
def RS(l:List Ob):Prop:=∀P:List Ob->Prop,P []->(∀{has:List Ob}{o:Ob},P has->cF has o.kind o.sum=none->qu has o.kind o.text=true->1<=o.kind->o.kind<=3->P (has++[o]))->P l
theorem RS.nil:RS []:=λ_ h _=>h
theorem RS.snoc{o:Ob}(h:RS has)(c:cF has o.kind o.sum=none)(d:qu has o.kind o.text=true)(e:1<=o.kind)(f:o.kind<=3):RS (has++[o]):=λP a b=>b (h P a b) c d e f
def Gt(has:List Ob)(s:ByteArray):List gS:=match cF has 3 s with
 |some o=>mN o.text
 |none=>[]
end
section
def Od(has:List Ob)(p:List ByteArray)(x:gS):pp:=⟨p++[x.name],x.dir,if x.dir then⟨#[]⟩else MQ has x.sum⟩
def KT(has:List Ob):Nat->ByteArray->List ByteArray->cS
 |0,_,_=>[]
 |f+1,s,p=>(Gt has s).map (Od has p)++(Gt has s).flatMap λx=>if x.dir then KT has f x.sum (p++[x.name])else[]
theorem jB(b:T.Perm T')(c:(T.map (·.names)).Nodup)(p:List ByteArray):cA T p=cA T' p:=by
 have a:(T'.map (·.names)).Nodup:=(b.map _).nodup_iff.1 c
 cases h:cA T p with
 |some x=>
  obtain⟨h1,h2⟩:=dI h;rw[<-h2,lT a (b.mem_iff.1 h1)]
 |none=>
  cases h':cA T' p with
  |none=>rfl
  |some x=>
   obtain⟨h1,h2⟩:=dI h';exact absurd h2 (vW h x (b.mem_iff.2 h1))
def mV(T:cS):Prop:=∀p,(dZ T p).length<=16
end
section
open Go.RowKit Go.Maps
theorem cD.tight(h:cD w S bd m d):cD w (λg=>S g/\g<w.heap.size) bd m d:=by
 obtain⟨gs,bm,wv,h1,h⟩:=h;exact⟨gs,bm,wv,h1,h.sec,h.map,⟨h.wait.1,λg hg=>⟨h.wait.2 g hg,h.wait.lt hg⟩⟩,⟨h.sb,cm h1⟩,⟨h.ss,cm h.sec⟩,⟨h.sm,dN h.map⟩,h.n1,h.n2,h.n3,h.d1,h.v1,h.v2⟩
end
end Go.Proofs.YtapijhhmjjplmaaGreatDoor

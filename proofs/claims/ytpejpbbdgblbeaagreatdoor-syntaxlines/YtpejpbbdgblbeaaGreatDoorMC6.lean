import Derived.Test.YtpejpbbdgblbeaaGreatDoorXScan
import Derived.Test.YtpejpbbdgblbeaaGreatDoorMC4
import Derived.Lib.AppendIntMem
import Derived.Test.YtpejpbbdgblbeaaGreatDoorProg
import Derived.WalkKit
import Derived.LaidEql
import Derived.Stop.Asserts
import Derived.RowKitTokens
import Derived.Below
import Derived.LoopN
import Derived.Defers
import Derived.Recover
import Derived.Tactics
import Derived.Tactics2
import Derived.Laws.Pointers
import Derived.RangeFuncRecord
namespace Go.Proofs.YtpejpbbdgblbeaaGreatDoor
open Go.RowKit Go.Shelf
set_option maxHeartbeats 16000000
set_option maxRecDepth 100000
attribute [local go_sem] Oper.semAt_some
theorem zdd (l:List UInt8) (w:World) (hl:4096<l.length) :
  Calls Tryz.prog 47 #[.string (zb l)] w fun e w'=>e=.returned (.tuple #[.slice none 0 0,.int .i64 0,.int .i64 5])∧Below w.heap.size w w':=by
 have y:(zb l).size=l.length:=rfl;have A:(4096:Int)<l.length:=by omega
 refine (callsIn_wide (n:=7)).1 ?_;refine callsIn_of_wp_marks Tryz.func47 rfl trivial ?_ rfl;simp only [Tryz.ntmps47,List.size_toArray,List.length_cons,List.length_nil,Nat.reduceAdd,Nat.reduceSub,Array.replicate_succ,Array.replicate_zero,List.push_toArray,List.append_toArray,List.nil_append,List.cons_append]
 gi_wp2
 have z:Boxed (((w.alloc (.cells #[.slice none 0 0] 58)).alloc (.cells #[.int .i64 0] 3)).alloc (.cells #[.int .i64 5] 26)) w.heap.size 58 (.slice none 0 0):=((Boxed.new w _ _).alloc _).alloc _
 have G:Boxed (((w.alloc (.cells #[.slice none 0 0] 58)).alloc (.cells #[.int .i64 0] 3)).alloc (.cells #[.int .i64 5] 26)) (w.heap.size+1) 3 (.int .i64 0):=by
  have h:=(Boxed.new (w.alloc (.cells #[.slice none 0 0] 58)) 3 (.int .i64 0)).alloc (.cells #[.int .i64 5] 26);rw [World.size_alloc] at h;exact h
 have D:Boxed (((w.alloc (.cells #[.slice none 0 0] 58)).alloc (.cells #[.int .i64 0] 3)).alloc (.cells #[.int .i64 5] 26)) (w.heap.size+1+1) 26 (.int .i64 5):=by
  have h:=Boxed.new ((w.alloc (.cells #[.slice none 0 0] 58)).alloc (.cells #[.int .i64 0] 3)) 26 (.int .i64 5);rw [World.size_alloc,World.size_alloc] at h;exact h
 have o:Below w.heap.size w (((w.alloc (.cells #[.slice none 0 0] 58)).alloc (.cells #[.int .i64 0] 3)).alloc (.cells #[.int .i64 5] 26)):=(((Below.refl _ w).alloc (Nat.le_refl _) _).alloc (by simp) _).alloc (by simp;omega) _
 have s:=z.cell;have c1:=G.cell;have c2:=D.cell;generalize ((w.alloc (.cells #[.slice none 0 0] 58)).alloc (.cells #[.int .i64 0] 3)).alloc (.cells #[.int .i64 5] 26)=W at s c1 c2 o ⊢;exact ⟨_,xI rfl _ _ _ rfl rfl rfl (by simp [go_sem,s]) (by simp [go_sem,c1]) (by simp [go_sem,c2]),rfl,o⟩
theorem Qk (l:List UInt8) (w:World) (ht:yz w) :
  Calls Tryz.prog 47 #[.string (zb l)] w fun e w'=>∃(r:Value),e=.returned (.tuple #[r,.int .i64 (zM l).2.1,.int .i64 (zM l).2.2]) ∧
   w'.ownsRow w.heap.size 66 5 r (zM l).1.length (ZE (zM l).1)∧Below w.heap.size w w':=by
 by_cases h:4096<l.length
 ·refine (zdd l w h).mono ?_
  rintro e w' ⟨rfl,s⟩
  unfold zM
  rw [if_pos h];exact ⟨_,rfl,World.ownsRow_nil _ _ _ _,s⟩
 ·refine (zeq l w (by omega) ht).mono ?_
  rintro e w' o
  unfold zM
  rw [if_neg h];exact o
theorem zb5 {w:World} {B e sz n:Nat} {v:Value} {xs:List Value} (h:w.ownsRow B e sz v n xs) (hn:1≤n):∃g o,v=.slice (some ⟨g,0,none⟩) n o∧B≤g∧g<w.heap.size∧n≤o∧∀j u,xs[j]?=some u→w.cell? ⟨g,j,none⟩=some u:=by
 obtain ⟨-,⟨-,G⟩ | ⟨g,o,z,rfl,D,s,y,-,-,A⟩⟩:=h
 ·omega
 ·refine ⟨g,o,rfl,D,(Array.getElem?_eq_some_iff.1 s).1,y,fun j u hj=>?_⟩
  rw [cell_of_row _ _ _ _ _ _ s];rw [←A,List.getElem?_take] at hj
  split at hj
  ·rw [Array.getElem?_toList] at hj;exact hj
  ·cases hj
def Zl (c:UInt8):List UInt8:=if c.toNat=92 then [92,92] else if c.toNat=34 then [92,34] else if c.toNat=10 then [92,110] else [c]
def yj (s:List UInt8):List UInt8:=34::(s.flatMap Zl++[34])
theorem zfA {c:UInt8} {i:Nat} (hi:i<3) (he:(Ut[i]'hi)=c.toNat):Zl c=[92,(V2[i]'hi).toUInt8]:=by
 have h:i=0∨i=1∨i=2:=by omega
 unfold Zl
 rcases h with rfl | rfl | rfl
 ·rw [←he];rfl
 ·rw [←he];rfl
 ·rw [←he];rfl
theorem zer {c:UInt8} (h:∀j (hj:j<3),(Ut[j]'hj)≠c.toNat):Zl c=[c]:=by
 have o:92≠c.toNat:=h 0 (by decide)
 have s:34≠c.toNat:=h 1 (by decide)
 have y:10≠c.toNat:=h 2 (by decide)
 unfold Zl
 rw [if_neg (by omega),if_neg (by omega),if_neg (by omega)]
theorem zes (c:UInt8):(Zl c).length≤2:=by
 unfold Zl
 split
 ·simp
 ·split
  ·simp
  ·split <;> simp
theorem Ql {w:World} {g r q:Nat} (hr:r<256) (hq:q<256) (hc:w.cell? ⟨g,0,none⟩=some (.int .u8 (r:Int))) (hd:w.cell? ⟨g,1,none⟩=some (.int .u8 (q:Int))):ua w (.slice (some ⟨g,0,none⟩) 2 2) [r.toUInt8,q.toUInt8] :=
 VM rfl (by unfold maxLen;decide) (fun j u hj=>by
  match j,hj with
  | 0,hj=>simp [Lib.byteCells,Lib.toUInt8_toNat hr] at hj;subst hj;exact hc
  | 1,hj=>simp [Lib.byteCells,Lib.toUInt8_toNat hq] at hj;subst hj;exact hd)
theorem zb6 (B:Nat) (v:Value) (us:List UInt8) (c:UInt8) (w:World) (hown:w.ownsRow B 5 1 v us.length (Lib.byteCells us)) (hB:B≤w.heap.size) (hl:us.length≤1000000000) (ht:yz w) :
  Calls Tryz.prog 193 #[v,.int .u8 (c.toNat:Int)] w fun e w'=>∃v',e=.returned v'∧w'.ownsRow B 5 1 v' (us++Zl c).length (Lib.byteCells (us++Zl c)) ∧
   Below B w w'∧∀k,k<w.heap.size→some k≠v.ownBlock→w'.heap[k]?=w.heap[k]?:=by
 have e0:=ht.escs 0 (by decide)
 have e1:=ht.escs 1 (by decide)
 have Z:=ht.escs 2 (by decide)
 have e3:=ht.escs 3 (by decide)
 have e4:=ht.escs 4 (by decide)
 have Y:=ht.escs 5 (by decide)
 simp only [List.getElem_cons_zero,List.getElem_cons_succ] at e0 e1 Z e3 e4 Y;clear ht;have V:Hid (w.ownsRow B 5 1 v us.length (Lib.byteCells us)):=hown;obtain ⟨n,R⟩:∃n,n=c.toNat:=⟨_,rfl⟩;have y:n<256:=by rw [R];exact UInt8.toNat_lt c
 rw [←R];have T:Hid (n=c.toNat):=R;clear hown R
 go_enter Tryz.func193,Tryz.ntmps193
 go_wp2
 clear e0 e1 Z e3 e4 Y
 go_loopw [8] (fun x wr=>∃i:Nat,i≤3∧x=.int .i64 i∧(∀j (hj:j<3),j<i→(Ut[j]'hj)≠n)∧Below w.heap.size w wr) (fun x _=>3-(intOf x).toNat)
 case atStart=>exact ⟨0,Nat.zero_le _,rfl,fun j _ h=>by omega,Below.refl _ _⟩
 case round =>
  obtain ⟨i,hi,rfl,A,z⟩:=hrel;have W:Hid (∀j (hj:j<3),j<i→(Ut[j]'hj)≠n):=A;have I:Hid (Below w.heap.size w wr):=z;have Q:=z.size;have K:Hid (wr.ownsRow B 5 1 v us.length (Lib.byteCells us)):=yi V.out z (Nat.le_refl _);clear A z
  by_cases hlt:i<3
  ·have J:=fun wx=>Qg wx i hlt
   obtain ⟨a,O⟩:∃a,a=Ut[i]'hlt:=⟨_,rfl⟩;obtain ⟨b,L⟩:∃b,b=V2[i]'hlt:=⟨_,rfl⟩
   have H:b<256:=by
    have:∀j (hj:j<3),(V2[j]'hj)<256:=by decide
    rw [L];exact this i hlt
   rw [←O,←L] at J
   by_cases he:a=n
   ·have N:Hid (Zl c=[(92:Nat).toUInt8,b.toUInt8]):=show _=_ by rw [L];exact zfA hlt (by rw [←O,he,T.out])
    subst he;clear O L
    go_wp2_with (at_builtin;refine YT rfl _ _ rfl B _ us rfl ((K.out.alloc _).alloc _) _ [(92:Nat).toUInt8,b.toUInt8] rfl (Ql (by decide) H (by simp) (by simp)) (by simp;omega) (by simp;omega) ?_;intro U w3 s o)
    have G:∀k,k<w.heap.size→some k≠v.ownBlock→w3.heap[k]?=w.heap[k]?:=fun k hk hne=>by
     rw [o.block k (by simp;omega) hne,Below.heap_alloc _ _ _ (by simp;omega),Below.heap_alloc _ _ _ (by omega),I.out.block k hk]
    have D:Below B w w3:=(((I.out.mono hB).alloc (by omega) _).alloc (by simp;omega) _).grown o (by simp;omega) (fun q hq=>(V.out.lt q hq).1)
    go_ret
    refine ⟨U,rfl,?_,D,G⟩;rw [N.out];exact s
   ·have aa:((a:Int)==(n:Int))=false:=by rw [beq_eq_false_iff_ne];omega
    have N:Hid ((Ut[i]'hlt)≠n):=show (Ut[i]'hlt)≠n by rw [←O];exact he
    clear O L he;go_wp2
    refine ⟨⟨i+1,by omega,by go_num,fun j hj hji=>?_,I.out.alloc Q _⟩,by simp [intOf];omega⟩
    by_cases h:j<i
    ·exact W.out j hj h
    ·obtain rfl:j=i:=by omega
     exact N.out
  ·obtain rfl:i=3:=by omega
   have N:Hid (Zl c=[n.toUInt8]):=show _=_ by
    rw [zer (fun j hj=>by rw [←T.out];exact W.out j hj hj),T.out]
    congr 1
    exact (UInt8.toNat_inj.1 (Lib.toUInt8_toNat (by rw [←T.out];exact y))).symm
   go_wp2_with (at_builtin;refine YT rfl _ _ rfl B _ us rfl (K.out.alloc _) _ [n.toUInt8] rfl (Xv y (by simp)) (by simp;omega) (by simp;omega) ?_;intro U w3 s o)
   have G:∀k,k<w.heap.size→some k≠v.ownBlock→w3.heap[k]?=w.heap[k]?:=fun k hk hne=>by
    rw [o.block k (by simp;omega) hne,Below.heap_alloc _ _ _ (by omega),I.out.block k hk]
   have D:Below B w w3:=((I.out.mono hB).alloc (by omega) _).grown o (by simp;omega) (fun q hq=>(V.out.lt q hq).1)
   go_ret
   refine ⟨U,rfl,?_,D,G⟩;rw [N.out];exact s
theorem zav (w:World) (c:Nat) (hc:c<256):(w.alloc (.cells #[.int .u8 (c:Int)] 5)).ownsRow w.heap.size 5 1 (.slice (some ⟨w.heap.size,0,none⟩) 1 1) [c.toUInt8].length (Lib.byteCells [c.toUInt8]):=by
 refine ⟨by simp [Lib.byteCells],.inr ⟨w.heap.size,1,#[.int .u8 (c:Int)],rfl,Nat.le_refl _,World.alloc_heap_new w _,Nat.le_refl _,by unfold maxLen;decide,by simp,?_⟩⟩
 simp [Lib.byteCells,Lib.toUInt8_toNat hc]
theorem zb7 (s:List UInt8) (i:Nat) (h:i<s.length):(s.take (i+1)).flatMap Zl=(s.take i).flatMap Zl++Zl s[i]:=by
 rw [List.take_succ_eq_append_getElem h,List.flatMap_append]
 simp
theorem Qm (s:List UInt8):(s.flatMap Zl).length≤2*s.length:=by
 induction s with
 | nil=>simp
 | cons x s ih =>
  have:=zes x
  rw [List.flatMap_cons,List.length_append,List.length_cons];omega
theorem zaw (s:List UInt8) (w:World) (hl:s.length≤100000000) (ht:yz w) :
  Calls Tryz.prog 178 #[.string (zb s)] w fun e w'=>e=.returned (.string (zb (yj s)))∧Below w.heap.size w w':=by
 have HT:Hid (yz w):=ht;have ay:(zb s).size=s.length:=rfl;obtain ⟨w1,y⟩:∃w1,w1=w.alloc (.cells #[.int .u8 ((34:Nat):Int)] 5):=⟨_,rfl⟩;have U:w1.heap.size=w.heap.size+1:=by rw [y];simp
 have Y:Below w.heap.size w w1:=by rw [y];exact (Below.refl _ w).alloc (Nat.le_refl _) _
 have ah:w1.ownsRow w.heap.size 5 1 (.slice (some ⟨w.heap.size,0,none⟩) 1 1) [(34:Nat).toUInt8].length (Lib.byteCells [(34:Nat).toUInt8]):=by rw [y];exact zav w 34 (by decide)
 have L:=fun (wx:World)=>Lib.run_convert_string_bytes (P:=Tryz.prog) wx 9 120 5 (zb s) Tryz.underlying9 Tryz.underlying120 Tryz.underlying5
 have J:(Lib.bytesWorld w1 5 (zb s)).heap.size=w1.heap.size+1:=Lib.bytesWorld_size w1 5 _;have N:Below w1.heap.size w1 (Lib.bytesWorld w1 5 (zb s)):=bytesWorld_below w1 5 _
 have O:∀j (h:j<s.length),(Lib.bytesWorld w1 5 (zb s)).cell? ⟨w1.heap.size,j,none⟩=some (.int .u8 ((s[j]).toNat:Int)):=fun j h=>by
  have h9:=Lib.bytesWorld_cell w1 5 (zb s) j h;rw [h9]
  simp [List.getD_eq_getElem?_getD,List.getElem?_eq_getElem h]
 have af:=Lib.bytesWorld_at_new w1 5 (zb s)
 have R:∀o,(Lib.bytesWorld w1 5 (zb s)).heap[w1.heap.size]?≠some (.cells o 5 (0,0)):=fun o h=>by
  rw [af] at h
  simp at h
 have aj:=grownCap_ge w1 (zb s).size 0 5;have ae:=grownCap_le_maxLen w1 (zb s).size 0 5 (by rw [Zb];unfold maxLen;omega)
 rw [Zb] at aj ae
 unfold maxLen at ae
 rw [U] at J O R;clear af ht
 go_enter Tryz.func178,Tryz.ntmps178
 go_wp2_with fail
 rw [show w.alloc (Obj.cells #[Value.int IntKind.u8 34] 5)=w1 from y.symm]
 generalize grownCap w1 s.length 0 5=cp at *;have an:Hid (∀j (h:j<s.length),(Lib.bytesWorld w1 5 (zb s)).cell? ⟨w.heap.size+1,j,none⟩=some (.int .u8 ((s[j]).toNat:Int))):=O;have av:Hid (∀o,(Lib.bytesWorld w1 5 (zb s)).heap[w.heap.size+1]?≠some (.cells o 5 (0,0))):=R;have ar:Hid (Below w.heap.size w (Lib.bytesWorld w1 5 (zb s))):=Y.trans (N.mono (by omega))
 have ao:Hid ((Lib.bytesWorld w1 5 (zb s)).ownsRow w.heap.size 5 1 (.slice (some ⟨w.heap.size,0,none⟩) 1 1) [(34:Nat).toUInt8].length (Lib.byteCells [(34:Nat).toUInt8])):=yi ah N (Nat.le_refl _);have ax:Hid ((Lib.bytesWorld w1 5 (zb s)).heap.size=w.heap.size+2):=J;clear O R Y N ah J L y U;generalize Lib.bytesWorld w1 5 (zb s)=w2 at *
 go_loopw [3,10] (fun vb vi wr=>∃i:Nat,i≤s.length∧vi=.int .i64 i∧wr.ownsRow w.heap.size 5 1 vb (34::(s.take i).flatMap Zl).length (Lib.byteCells (34::(s.take i).flatMap Zl))∧Below w.heap.size w wr∧wr.heap[w.heap.size+1]?=w2.heap[w.heap.size+1]?) (fun _ vi _=>s.length-(intOf vi).toNat)
 case atStart=>exact ⟨0,Nat.zero_le _,rfl,ao.out,ar.out,rfl⟩
 case round =>
  obtain ⟨i,hi,rfl,G,K,Z⟩:=hrel;have H:=K.size;have HB:Hid (Below w.heap.size w wr):=K;have W:Hid (wr.ownsRow w.heap.size 5 1 u3 (34::(s.take i).flatMap Zl).length (Lib.byteCells (34::(s.take i).flatMap Zl))):=G;have I:Hid (wr.heap[w.heap.size+1]?=w2.heap[w.heap.size+1]?):=Z
  have ap:(34::(s.take i).flatMap Zl).length≤2*s.length+1:=by
   have h9:=Qm (s.take i);rw [List.length_take] at h9;rw [List.length_cons];omega
  clear G K Z
  by_cases hlt:i<s.length
  ·have hc:wr.cell? ⟨w.heap.size+1,i,none⟩=some (.int .u8 ((s[i]).toNat:Int)):=by
    rw [World.cell?_of_block I.out];exact an.out i hlt
   have am:(i:Int)<s.length:=by omega
   have ca:=zb6 w.heap.size u3 (34::(s.take i).flatMap Zl) s[i] wr W.out H (by omega) (HT.out.below HB.out (Nat.le_refl _))
   have ak:Hid ((34::(s.take i).flatMap Zl)++Zl s[i]=34::(s.take (i+1)).flatMap Zl):=by
    show _=_
    rw [zb7 s i hlt];rfl
   rw [ak.out] at ca
   have ai:Hid (some (w.heap.size+1)≠u3.ownBlock):=fun e=>by
    obtain ⟨-,⟨hv,-⟩ | ⟨g,aw,o,hv,-,hh,-⟩⟩:=W.out
    ·rw [hv] at e;simp [Value.ownBlock] at e
    ·rw [hv] at e
     simp [Value.ownBlock] at e
     rw [←e,I.out] at hh;exact av.out _ hh
   have hz:w.heap.size+1<wr.heap.size:=World.block_lt_of_cell? wr _ hc;obtain ⟨n,hn⟩:∃n,n=(s[i]).toNat:=⟨_,rfl⟩;rw [←hn] at hc ca;clear hn;go_wp2_with fail
   refine ca.mono ?_;clear ca;rintro e T ⟨v3,rfl,ad,ag,aa⟩;have aq:Hid (T.ownsRow w.heap.size 5 1 v3 (34::(s.take (i+1)).flatMap Zl).length (Lib.byteCells (34::(s.take (i+1)).flatMap Zl))):=ad;have Q:Hid (Below w.heap.size w T):=HB.out.trans ag;have al:Hid (T.heap[w.heap.size+1]?=w2.heap[w.heap.size+1]?):=(aa _ hz ai.out).trans I.out;clear ad ag aa;go_wp2
   exact ⟨⟨i+1,by omega,by go_num,aq.out,Q.out,al.out⟩,by simp [intOf];omega⟩
  ·obtain rfl:i=s.length:=by omega
   have am:¬ (s.length:Int)<s.length:=by omega
   have HQ:Hid (yj s=(34::(s.take s.length).flatMap Zl)++[(34:Nat).toUInt8]):=by
    show _=_
    rw [List.take_length];rfl
   obtain ⟨us,V⟩:∃us,us=34::(s.take s.length).flatMap Zl:=⟨_,rfl⟩;rw [←V] at HQ W ap;clear V
   go_wp2_with (at_builtin;refine YT rfl _ _ rfl w.heap.size _ us rfl (W.out.alloc _) _ [(34:Nat).toUInt8] rfl (Xv (by decide) (by simp)) (by simp;omega) (by simp;omega) ?_;intro v3 T D A;obtain ⟨b3,ab,rfl,z,-,-,-⟩:=qn D;have au:=Qc T b3 _ ab z;rw [show (us++[(34:Nat).toUInt8]).length=us.length+1 by simp] at au ⊢)
   have Q:Hid (Below w.heap.size w T):=(HB.out.alloc H _).grown A (by simp;omega) (fun q hq=>(W.out.lt q hq).1)
   clear z D A;go_ret
   rw [HQ.out];exact ⟨rfl,Q.out⟩
end Go.Proofs.YtpejpbbdgblbeaaGreatDoor
namespace Go.Proofs.YtpejpbbdgblbeaaGreatDoor
open Go.RowKit Go.Extern.Stop Go.Stop Go.Extern
set_option maxHeartbeats 16000000
set_option maxRecDepth 100000
theorem Qn (t:Addr) (w:World):(ReflectliteValue.unpack (.iface 147 (.pointer (some t)))).run Tryz.prog w
  = .ok (.agg #[.pointer (some ⟨11,147,none⟩),.pointer (some ⟨w.heap.size,0,none⟩),.int .u64 150]) (w.alloc (.cells #[.pointer (some t)] 147)):=by kernel_rfl
theorem zde (a : Addr) (w : World) : (ReflectliteValue.methodAny (ReflectliteValue.valueError "reflectlite.Value.Type" 0) (fun t _ _ _ => ReflectliteType.toType t) #[.agg #[.pointer (some ⟨11, 147, none⟩), .pointer (some a), .int .u64 150]]).run Tryz.prog w
  = .ok (.iface 196 (.agg #[.pointer (some ⟨11,147,none⟩)])) w:=by kernel_rfl
theorem Uv (h : Value) (w : World) : (Go.method 387 196 (.agg #[h]) "Kind").run Tryz.prog w = .ok (242, h) w := by kernel_rfl
theorem zdf (w:World):((ReflectliteType.abiMethod fun t=>(fun a:Nat=>Value.int IntKind.u8 (a:Int)) <$> Rtype.kind t) #[.pointer (some ⟨11,147,none⟩)]).run Tryz.prog w=.ok (.int .u8 22) w:=by kernel_rfl
theorem zdg (w:World):((ReflectliteType.abiMethod fun t=>(fun a:Nat=>Value.int IntKind.u8 (a:Int)) <$> Rtype.kind t) #[.pointer (some ⟨11,145,none⟩)]).run Tryz.prog w=.ok (.int .u8 25) w:=by kernel_rfl
theorem zgr (z:Sem Value) (f:TypeId→Addr→Nat→Nat→Sem Value) (v:Value) :
  ReflectliteValue.method z f #[v]=(do match ←ReflectliteValue.parts v with | none=>z | some (t,a,fl)=>f t a fl (fl % 32)):=rfl
theorem UT (a:Addr) (w:World):(ReflectliteValue.parts (.agg #[.pointer (some ⟨11,147,none⟩),.pointer (some a),.int .u64 150])).run Tryz.prog w=.ok (some (147,a,150)) w:=by kernel_rfl
theorem zb8 (a p:Addr) (W:World) (ha:W.cell? a=some (.pointer (some p))) :
  (ReflectliteValue.method (ReflectliteValue.valueError "reflectlite.Value.IsNil" 0) ReflectliteValue.isNil #[.agg #[.pointer (some ⟨11, 147, none⟩), .pointer (some a), .int .u64 150]]).run Tryz.prog W = .ok (.bool false) W := by
 rw [zgr];simp only [Sem.run_bind,UT,Result.andThen]
 simp [ReflectliteValue.isNil,loadVar,isAgg,underlying,Tryz.underlying147,ha,Result.andThen]
theorem Uw (h : Value) (w : World) : (Go.method 387 196 (.agg #[h]) "Elem").run Tryz.prog w = .ok (253, .agg #[h]) w := by kernel_rfl
theorem XV (h : Value) (w : World) : (Go.method 387 196 (.agg #[h]) "Implements").run Tryz.prog w = .ok (254, .agg #[h]) w := by kernel_rfl
theorem Xr (h : Value) (w : World) : (Go.method 387 196 (.agg #[h]) "AssignableTo").run Tryz.prog w = .ok (251, .agg #[h]) w := by kernel_rfl
theorem zdh (w:World):(ReflectliteType.method ReflectliteType.elem #[.agg #[.pointer (some ⟨11,147,none⟩)]]).run Tryz.prog w=.ok (.iface 196 (.agg #[.pointer (some ⟨11,145,none⟩)])) w:=by kernel_rfl
theorem uy (w : World) : (ReflectliteType.relation "Implements" ReflectliteType.implements_ #[.agg #[.pointer (some ⟨11, 145, none⟩)], .iface 196 (.agg #[.pointer (some ⟨11, 142, none⟩)])]).run Tryz.prog w = .ok (.bool true) w := by kernel_rfl
theorem zax (v:Value) (w:World):(ReflectliteType.typeOf #[.iface 145 v]).run Tryz.prog w=.ok (.iface 196 (.agg #[.pointer (some ⟨11,145,none⟩)])) w:=by kernel_rfl
theorem uz (w : World) : (ReflectliteType.relation "AssignableTo" ReflectliteType.assignableTo #[.agg #[.pointer (some ⟨11, 145, none⟩)], .iface 196 (.agg #[.pointer (some ⟨11, 145, none⟩)])]).run Tryz.prog w = .ok (.bool true) w := by kernel_rfl
theorem Qo (a b:Value) (w:World):(ReflectliteValue.unpack (.iface 145 (.agg #[a,b]))).run Tryz.prog w
  = .ok (.agg #[.pointer (some ⟨11,145,none⟩),.pointer (some ⟨w.heap.size,0,none⟩),.int .u64 153]) (w.alloc (.cells #[a,b] 145)):=by kernel_rfl
theorem zay (w:World):(Rtype.elem? 147).run Tryz.prog w=.ok (some 145) w:=by kernel_rfl
theorem zfB (p:Addr) (w:World):(ReflectliteValue.mk 145 p ReflectliteValue.flagAddr).run Tryz.prog w=.ok (.agg #[.pointer (some ⟨11,145,none⟩),.pointer (some p),.int .u64 409]) w:=by kernel_rfl
theorem zb9 (a p:Addr) (W:World) (ha:W.cell? a=some (.pointer (some p))) :
  (ReflectliteValue.method (ReflectliteValue.valueError "reflectlite.Value.Elem" 0) ReflectliteValue.elem #[.agg #[.pointer (some ⟨11, 147, none⟩), .pointer (some a), .int .u64 150]]).run Tryz.prog W
   = .ok (.agg #[.pointer (some ⟨11,145,none⟩),.pointer (some p),.int .u64 409]) W:=by
 rw [zgr];simp only [Sem.run_bind,UT,Result.andThen]
 simp [ReflectliteValue.elem,loadVar,isAgg,underlying,Tryz.underlying147,ha,Result.andThen,zay,zfB]
theorem zaz (a:Addr) (w:World):(ReflectliteValue.parts (.agg #[.pointer (some ⟨11,145,none⟩),.pointer (some a),.int .u64 409])).run Tryz.prog w=.ok (some (145,a,409)) w:=by kernel_rfl
theorem zca (a:Addr) (w:World):(ReflectliteValue.parts (.agg #[.pointer (some ⟨11,145,none⟩),.pointer (some a),.int .u64 153])).run Tryz.prog w=.ok (some (145,a,153)) w:=by kernel_rfl
theorem zaA (w:World):(Rtype.directlyAssignable 145 145).run Tryz.prog w=.ok true w:=by kernel_rfl
theorem zgZ (v x:Value):ReflectliteValue.set #[v,x]=(do
  let (some (dst,a,fl),some (src,b,_)):=(←ReflectliteValue.parts v,←ReflectliteValue.parts x)
   | unsupported (.noEntry "extern/(internal/reflectlite.Value).Set.zeroValue")
  if fl / ReflectliteValue.flagAddr % 2 == 0 then unsupported (.noEntry "extern/(internal/reflectlite.Value).Set.unaddressable")
  let val ←loadVar src b
  if ←Rtype.directlyAssignable dst src then storeVar dst a val
  else if ←Rtype.implements dst src then
   if (←Rtype.kind src)==20 then
    match val with
    | .nilIface => unsupported (.noEntry "extern/reflectlite: a nil value of one interface type handed on as a value of another")
    | _=>storeVar dst a val
   else storeVar dst a (.iface src val)
  else panicString ("reflectlite.Set: value of type " ++ (← Rtype.spelt src) ++ " is not assignable to type " ++ (← Rtype.spelt dst))
  pure (.tuple #[])):=rfl
theorem zet (g h:Nat) (x y:Int) (o0 o1:Value) (W:World) (hx:W.cell? ⟨h,0,none⟩=some (.int .i64 x)) (hy:W.cell? ⟨h,1,none⟩=some (.int .i64 y)) (h0:W.cell? ⟨g,0,none⟩=some o0) (h1:W.cell? ⟨g,1,none⟩=some o1) (f0:W.frozen? ⟨g,0,none⟩=false) (f1:W.frozen? ⟨g,1,none⟩=false) :
  (ReflectliteValue.set #[.agg #[.pointer (some ⟨11,145,none⟩),.pointer (some ⟨g,0,none⟩),.int .u64 409],.agg #[.pointer (some ⟨11,145,none⟩),.pointer (some ⟨h,0,none⟩),.int .u64 153]]).run Tryz.prog W
   = .ok (.tuple #[]) ((W.setCell ⟨g,0,none⟩ (.int .i64 x)).setCell ⟨g,1,none⟩ (.int .i64 y)):=by
 have s:(loadCells ⟨h,0,none⟩ 2).run Tryz.prog W=.ok #[.int .i64 x,.int .i64 y] W:=by
  have e:=run_loadCells_list (P:=Tryz.prog) W ⟨h,0,none⟩ [.int .i64 x,.int .i64 y] (fun j v hj=>by
   match j,hj with
   | 0,hj=>simp at hj;subst hj;simpa [Addr.add] using hx
   | 1,hj=>simp at hj;subst hj;simpa [Addr.add] using hy)
  exact e
 rw [zgZ];simp only [Sem.run_bind,zaz,zca,Result.andThen]
 simp [ReflectliteValue.flagAddr,loadVar,s,Result.andThen,zaA,storeVar,Value.cells,storeCells,Addr.add]
 rw [run_store Tryz.prog W ⟨g,0,none⟩ _ _ (by rfl)]
 simp [h0,f0]
 have o:(W.setCell ⟨g,0,none⟩ (.int .i64 x)).cell? ⟨g,1,none⟩=some o1:=by
  rw [World.cell?_setCell_other W _ _ _ (by simp)];exact h1
 rw [run_store Tryz.prog (W.setCell ⟨g,0,none⟩ (.int .i64 x)) ⟨g,1,none⟩ _ _ (by rfl)]
 simp [o,f1]
theorem zdi (why at0:Int) (g:Nat) (o0 o1:Value) (w:World) (hg:w.cell? ⟨0,0,none⟩=some (.iface 196 (.agg #[.pointer (some ⟨11,142,none⟩)]))) (ht0:w.cell? ⟨g,0,none⟩=some o0) (ht1:w.cell? ⟨g,1,none⟩=some o1) (hf0:w.frozen? ⟨g,0,none⟩=false) (hf1:w.frozen? ⟨g,1,none⟩=false) :
  Calls Tryz.prog 91 #[.iface 145 (.agg #[.int .i64 why,.int .i64 at0]),.iface 147 (.pointer (some ⟨g,0,none⟩))] w fun ev w'=>ev=.returned (.bool true)∧w'=((((((w.alloc (.cells #[.pointer (some ⟨g,0,none⟩)] 147)).alloc (.cells #[.pointer (some ⟨11,147,none⟩),.pointer (some ⟨w.heap.size,0,none⟩),.int .u64 150] 177)).alloc (.cells #[.pointer (some ⟨11,147,none⟩),.pointer (some ⟨w.heap.size,0,none⟩),.int .u64 150] 177)).alloc (.cells #[.int .i64 why,.int .i64 at0] 145)).setCell ⟨g,0,none⟩ (.int .i64 why)).setCell ⟨g,1,none⟩ (.int .i64 at0)):=by
 have h6:=@run_callFunc_extern Tryz.prog 131 _ (fun args=>ReflectliteValue.unpack (args.getD 0 (.tuple #[]))) Tryz.func131 (by kernel_rfl) (by kernel_rfl) (by kernel_rfl) (by kernel_rfl)
 have h7 := @run_callFunc_extern Tryz.prog 132 _ (ReflectliteValue.methodAny (ReflectliteValue.valueError "reflectlite.Value.Type" 0) (fun t _ _ _ => ReflectliteType.toType t)) Tryz.func132 (by kernel_rfl) (by kernel_rfl) (by kernel_rfl) (by kernel_rfl)
 have h8 := @run_callFunc_extern Tryz.prog 133 _ (ReflectliteValue.method (ReflectliteValue.valueError "reflectlite.Value.IsNil" 0) ReflectliteValue.isNil) Tryz.func133 (by kernel_rfl) (by kernel_rfl) (by kernel_rfl) (by kernel_rfl)
 have N:=@run_callFunc_extern Tryz.prog 242 _ (ReflectliteType.abiMethod fun t=>do pure (.int .u8 (←Rtype.kind t))) Tryz.func242 (by kernel_rfl) (by kernel_rfl) (by kernel_rfl) (by kernel_rfl)
 have G:=@run_callFunc_extern Tryz.prog 253 _ (ReflectliteType.method ReflectliteType.elem) Tryz.func253 (by kernel_rfl) (by kernel_rfl) (by kernel_rfl) (by kernel_rfl)
 have O := @run_callFunc_extern Tryz.prog 254 _ (ReflectliteType.relation "Implements" ReflectliteType.implements_) Tryz.func254 (by kernel_rfl) (by kernel_rfl) (by kernel_rfl) (by kernel_rfl)
 have H:=@run_callFunc_extern Tryz.prog 161 _ ReflectliteType.typeOf Tryz.func161 (by kernel_rfl) (by kernel_rfl) (by kernel_rfl) (by kernel_rfl)
 have I := @run_callFunc_extern Tryz.prog 251 _ (ReflectliteType.relation "AssignableTo" ReflectliteType.assignableTo) Tryz.func251 (by kernel_rfl) (by kernel_rfl) (by kernel_rfl) (by kernel_rfl)
 have R := @run_callFunc_extern Tryz.prog 162 _ (ReflectliteValue.method (ReflectliteValue.valueError "reflectlite.Value.Elem" 0) ReflectliteValue.elem) Tryz.func162 (by kernel_rfl) (by kernel_rfl) (by kernel_rfl) (by kernel_rfl)
 have J:=@run_callFunc_extern Tryz.prog 163 _ ReflectliteValue.set Tryz.func163 (by kernel_rfl) (by kernel_rfl) (by kernel_rfl) (by kernel_rfl)
 have tO:=zax;have mA:=Xr;have D:=uz;have U:=Qo;have f6:=Qn;have f7:=zde;have mK:=Uv;have Y:=Uw;have mI:=XV;have K:=zdf;have Q:=zdg;have L:=zdh;have T:=uy;have V:=zb8 ⟨w.heap.size,0,none⟩ ⟨g,0,none⟩ ((w.alloc (.cells #[.pointer (some ⟨g,0,none⟩)] 147)).alloc (.cells #[.pointer (some ⟨11,147,none⟩),.pointer (some ⟨w.heap.size,0,none⟩),.int .u64 150] 177)) (by simp)
 have z:0<w.heap.size:=World.block_lt_of_cell? w _ hg
 have A:((w.alloc (.cells #[.pointer (some ⟨g,0,none⟩)] 147)).alloc (.cells #[.pointer (some ⟨11,147,none⟩),.pointer (some ⟨w.heap.size,0,none⟩),.int .u64 150] 177)).cell? ⟨0,0,none⟩=some (.iface 196 (.agg #[.pointer (some ⟨11,142,none⟩)])):=by
  rw [World.cell?_alloc_lt _ _ ⟨0,0,none⟩ (by simp <;> omega),World.cell?_alloc_lt _ _ ⟨0,0,none⟩ z];exact hg
 have o:g<w.heap.size:=World.block_lt_of_cell? w _ ht0;have W:=zb9 ⟨w.heap.size,0,none⟩ ⟨g,0,none⟩ (((w.alloc (.cells #[.pointer (some ⟨g,0,none⟩)] 147)).alloc (.cells #[.pointer (some ⟨11,147,none⟩),.pointer (some ⟨w.heap.size,0,none⟩),.int .u64 150] 177)).alloc (.cells #[.pointer (some ⟨11,147,none⟩),.pointer (some ⟨w.heap.size,0,none⟩),.int .u64 150] 177)) (by rw [World.cell?_alloc_lt _ _ ⟨w.heap.size,0,none⟩ (by simp;omega)];simp)
 have y:∀j v,w.cell? ⟨g,j,none⟩=some v→((((w.alloc (.cells #[.pointer (some ⟨g,0,none⟩)] 147)).alloc (.cells #[.pointer (some ⟨11,147,none⟩),.pointer (some ⟨w.heap.size,0,none⟩),.int .u64 150] 177)).alloc (.cells #[.pointer (some ⟨11,147,none⟩),.pointer (some ⟨w.heap.size,0,none⟩),.int .u64 150] 177)).alloc (.cells #[.int .i64 why,.int .i64 at0] 145)).cell? ⟨g,j,none⟩=some v:=fun j v h=>by
  rw [World.cell?_alloc_lt _ _ ⟨g,j,none⟩ (by simp;omega),World.cell?_alloc_lt _ _ ⟨g,j,none⟩ (by simp;omega),World.cell?_alloc_lt _ _ ⟨g,j,none⟩ (by simp;omega),World.cell?_alloc_lt _ _ ⟨g,j,none⟩ o];exact h
 have s:∀j,w.frozen? ⟨g,j,none⟩=false→((((w.alloc (.cells #[.pointer (some ⟨g,0,none⟩)] 147)).alloc (.cells #[.pointer (some ⟨11,147,none⟩),.pointer (some ⟨w.heap.size,0,none⟩),.int .u64 150] 177)).alloc (.cells #[.pointer (some ⟨11,147,none⟩),.pointer (some ⟨w.heap.size,0,none⟩),.int .u64 150] 177)).alloc (.cells #[.int .i64 why,.int .i64 at0] 145)).frozen? ⟨g,j,none⟩=false:=fun j h=>by
  rw [World.frozen?_alloc_old _ _ ⟨g,j,none⟩ (by simp;omega),World.frozen?_alloc_old _ _ ⟨g,j,none⟩ (by simp;omega),World.frozen?_alloc_old _ _ ⟨g,j,none⟩ (by simp;omega),World.frozen?_alloc_old _ _ ⟨g,j,none⟩ (Nat.ne_of_lt o)];exact h
 have Z:=zet g (w.heap.size+1+1+1) why at0 o0 o1 ((((w.alloc (.cells #[.pointer (some ⟨g,0,none⟩)] 147)).alloc (.cells #[.pointer (some ⟨11,147,none⟩),.pointer (some ⟨w.heap.size,0,none⟩),.int .u64 150] 177)).alloc (.cells #[.pointer (some ⟨11,147,none⟩),.pointer (some ⟨w.heap.size,0,none⟩),.int .u64 150] 177)).alloc (.cells #[.int .i64 why,.int .i64 at0] 145))
  (by rw [World.cell?_alloc_at _ _ _ _ (by simp)];rfl) (by rw [World.cell?_alloc_at _ _ _ _ (by simp)];rfl) (y 0 o0 ht0) (y 1 o1 ht1) (s 0 hf0) (s 1 hf1)
 clear y s
 go_enter Tryz.func91,Tryz.ntmps91
 go_wp2
 refine wp_loop_rounds 1 ?_;rw [rounds_succ];go_wp2
 go_ret
 exact ⟨rfl,rfl⟩
theorem qu (v:Value) (w:World):(Instr.typeAssert (.iface 145 v) 20 142 true).run Tryz.prog w=.ok (.tuple #[.iface 145 v,.bool true]) w:=by kernel_rfl
theorem zaB (w:World):(Instr.typeAssert .nilIface 20 142 true).run Tryz.prog w=.ok (.tuple #[.nilIface,.bool false]) w:=by kernel_rfl
def Y7 (w:World):Prop:=w.cell? ⟨0,0,none⟩=some (.iface 196 (.agg #[.pointer (some ⟨11,142,none⟩)]))
theorem zaC (p q:Addr) (w:World) :
  CallsD Tryz.prog 90 #[.pointer (some p),.pointer (some q)] .returning w fun e u' w'=>e=.returned (.tuple #[])∧u'=.returning∧w'=w:=by
 have h:=zaB;refine callsD_of_wpS Tryz.func90 rfl fun c₀ cs hu=>?_
 simp only [Tryz.ntmps90,List.size_toArray,List.length_cons,List.length_nil,Nat.reduceAdd,Nat.reduceSub,Array.replicate_succ,Array.replicate_zero,List.push_toArray,List.append_toArray,List.nil_append,List.cons_append]
 apply wpS_seq
 apply wpS_region
 simp [wpOpsS,go_sem,recoverD,hu,Exit.thenS,h]
 apply wpS_seq
 apply wpS_region
 simp [wpOpsS,go_sem,Exit.thenS]
 refine wpS_cond (t:=false) (by simp [Act.eval]) ?_
 simp only [Bool.false_eq_true,if_false];refine wpS_of_wp (wp_skip ?_);cases c₀
 simp_all [bodyPostS,results,Tryz.results90]
theorem Qp (N:Nat) (why at0 x y:Int) (older:List PanicEntry) (w:World) (h0:w.heap[N]?=some (.cells #[.int .i64 x] 3 (0,0))) (h1:w.heap[N+1]?=some (.cells #[.int .i64 y] 26 (0,0))) (hg:Y7 w) :
  CallsD Tryz.prog 90 #[.pointer (some ⟨N,0,none⟩),.pointer (some ⟨N+1,0,none⟩)] (.panicking ({ v:=.iface 145 (.agg #[.int .i64 why,.int .i64 at0]),recovered:=false }::older)) w fun e u' w' =>
   e=.returned (.tuple #[])∧u'=.panicking ({ v:=.iface 145 (.agg #[.int .i64 why,.int .i64 at0]),recovered:=true }::older)∧w'.cell? ⟨N,0,none⟩=some (.int .i64 at0)∧w'.cell? ⟨N+1,0,none⟩=some (.int .i64 why)∧Below N w w':=by
 have J:=qu;refine callsD_of_wpS Tryz.func90 rfl fun c₀ cs hu=>?_
 simp only [Tryz.ntmps90,List.size_toArray,List.length_cons,List.length_nil,Nat.reduceAdd,Nat.reduceSub,Array.replicate_succ,Array.replicate_zero,List.push_toArray,List.append_toArray,List.nil_append,List.cons_append]
 apply wpS_seq
 apply wpS_region
 simp [wpOpsS,go_sem,recoverD,hu,Exit.thenS,J]
 apply wpS_seq
 apply wpS_region
 simp [wpOpsS,go_sem,Exit.thenS]
 refine wpS_cond (t:=true) (by simp [Act.eval]) ?_
 simp only [if_true];refine wpS_of_wp ?_;have R:N+1<w.heap.size:=(Array.getElem?_eq_some_iff.1 h1).1;obtain ⟨w1,z⟩:∃w1,w1=w.alloc (.cells #[.int .i64 0,.int .i64 0] 145):=⟨_,rfl⟩;have Z:w1.heap.size=w.heap.size+1:=by rw [z];simp
 have o:w1.heap[w.heap.size]?=some (.cells #[.int .i64 0,.int .i64 0] 145 (0,0)):=by rw [z];exact World.alloc_heap_new w _
 have D:∀k,k<w.heap.size→w1.heap[k]?=w.heap[k]?:=fun k hk=>by rw [z];exact Below.heap_alloc w _ k hk
 have G:Y7 w1:=by
  unfold Y7 at hg ⊢
  have hl:=World.block_lt_of_cell? w _ hg;rw [World.cell?_of_block (D _ hl)];exact hg
 have Q:=zdi why at0 w.heap.size (.int .i64 0) (.int .i64 0) w1 G (by simp [World.cell?,o]) (by simp [World.cell?,o]) (by simp [World.frozen?,o]) (by simp [World.frozen?,o])
 rw [z] at Q;go_wp2_with fail
 refine Q.mono ?_;clear Q;rw [←z];rintro e w2 ⟨rfl,A⟩
 have s:∀k,k<w.heap.size→w2.heap[k]?=w.heap[k]?:=fun k hk=>by
  rw [A,Below.heap_setCell _ _ _ _ (by simp;omega),Below.heap_setCell _ _ _ _ (by simp;omega),Below.heap_alloc _ _ _ (by simp;omega),Below.heap_alloc _ _ _ (by simp;omega),Below.heap_alloc _ _ _ (by simp;omega),Below.heap_alloc _ _ _ (by omega),D k hk]
 have U:∀j v,w1.cell? ⟨w.heap.size,j,none⟩=some v→∀o1 o2 o3 o4,((((w1.alloc o1).alloc o2).alloc o3).alloc o4).cell? ⟨w.heap.size,j,none⟩=some v:=fun j v h o1 o2 o3 o4=>by
  rw [World.cell?_alloc_lt _ _ ⟨w.heap.size,j,none⟩ (by simp;omega),World.cell?_alloc_lt _ _ ⟨w.heap.size,j,none⟩ (by simp;omega),World.cell?_alloc_lt _ _ ⟨w.heap.size,j,none⟩ (by simp;omega),World.cell?_alloc_lt _ _ ⟨w.heap.size,j,none⟩ (by simp;omega)];exact h
 have W:w1.cell? ⟨w.heap.size,0,none⟩=some (.int .i64 0):=by simp [World.cell?,o]
 have c1:w1.cell? ⟨w.heap.size,1,none⟩=some (.int .i64 0):=by simp [World.cell?,o]
 have d0:w2.cell? ⟨w.heap.size,0,none⟩=some (.int .i64 why):=by
  rw [A,World.cell?_setCell_other _ _ _ _ (by simp),World.cell?_setCell_same _ _ _ (U 0 _ W _ _ _ _)]
 have d1:w2.cell? ⟨w.heap.size,1,none⟩=some (.int .i64 at0):=by
  rw [A];refine World.cell?_setCell_same _ _ _ (u:=.int .i64 0) ?_;rw [World.cell?_setCell_other _ _ _ _ (by simp)]
  exact U 1 _ c1 _ _ _ _
 have V:w.heap.size≤w2.heap.size:=by rw [A];simp;omega
 have T:w2.heap[N]?=some (.cells #[.int .i64 x] 3 (0,0)):=(s N (by omega)).trans h0
 have L:w2.heap[N+1]?=some (.cells #[.int .i64 y] 26 (0,0)):=(s (N+1) R).trans h1
 have H:Below N w w2:=by
  rw [A,z];exact (((((((Below.refl N w).alloc (by omega) _).alloc (by simp;omega) _).alloc (by simp;omega) _).alloc (by simp;omega) _).alloc (by simp;omega) _).setCell (p:=⟨w.heap.size,0,none⟩) (by simp;omega) _).setCell (p:=⟨w.heap.size,1,none⟩) (by simp;omega) _
 have O:Hid (Below N w w2):=H;have k0:w2.cell? ⟨N,0,none⟩=some (.int .i64 x):=by simp [World.cell?,T]
 have Y:w2.cell? ⟨N+1,0,none⟩=some (.int .i64 y):=by simp [World.cell?,L]
 have aa:w2.frozen? ⟨N,0,none⟩=false:=by simp [World.frozen?,T]
 have ab:w2.frozen? ⟨N+1,0,none⟩=false:=by simp [World.frozen?,L]
 have K:∀v,(w2.setCell ⟨N,0,none⟩ v).cell? ⟨N+1,0,none⟩=some (.int .i64 y):=fun v=>(World.cell?_setCell_other _ _ _ _ (by simp)).trans Y
 clear A s U W c1 T L H o D G z;go_wp2
 have I:Below N w ((w2.setCell ⟨N,0,none⟩ (.int .i64 at0)).setCell ⟨N+1,0,none⟩ (.int .i64 why)):=(O.out.setCell (p:=⟨N,0,none⟩) (by simp) _).setCell (p:=⟨N+1,0,none⟩) (by simp) _
 have e0:((w2.setCell ⟨N,0,none⟩ (.int .i64 at0)).setCell ⟨N+1,0,none⟩ (.int .i64 why)).cell? ⟨N,0,none⟩=some (.int .i64 at0):=by
  rw [World.cell?_setCell_other _ _ _ _ (by simp),World.cell?_setCell_same _ _ _ k0]
 have e1:((w2.setCell ⟨N,0,none⟩ (.int .i64 at0)).setCell ⟨N+1,0,none⟩ (.int .i64 why)).cell? ⟨N+1,0,none⟩=some (.int .i64 why):=World.cell?_setCell_same _ _ _ (K _)
 simp [bodyPostS,results,Tryz.results90]
 exact ⟨e0,e1,I⟩
abbrev qv (why at0:Int):Value:=.iface 145 (.agg #[.int .i64 why,.int .i64 at0])
abbrev zeu (w:World):World:=(w.alloc (.cells #[.int .i64 0] 3)).alloc (.cells #[.int .i64 0] 26)
end Go.Proofs.YtpejpbbdgblbeaaGreatDoor
namespace Go.Proofs.YtpejpbbdgblbeaaGreatDoor
open Go.RowKit Go.Shelf
set_option maxHeartbeats 16000000
set_option maxRecDepth 100000
abbrev VP (t:Tk):Value:=.agg #[.int .i64 t.k,.string (zb t.s),.int .i64 t.n,.int .i64 t.line,.int .i64 t.at0]
abbrev ZK (t:Tk):Obj:=.cells #[.int .i64 t.k,.string (zb t.s),.int .i64 t.n,.int .i64 t.line,.int .i64 t.at0] 66
structure zf (r g o cap:Nat) (ts:List Tk) (w:World):Prop where
 cell:w.cell? ⟨r,0,none⟩=some (.slice (some ⟨g,o,none⟩) ts.length cap)
 soft:w.frozen? ⟨r,0,none⟩=false
 hcap:ts.length≤cap
 hmax:cap≤maxLen
 other:r≠g
 toks:∀j u,(ZE ts)[j]?=some u→w.cell? ⟨g,o+j,none⟩=some u
 few:ts.length≤1099511627776
theorem zj {w:World} {p:Addr} {v:Value} (h:w.cell? p=some v) (ob:Obj):(w.alloc ob).cell? p=some v:=by
 rw [World.cell?_alloc_lt _ _ p (World.block_lt_of_cell? w _ h)];exact h
theorem zdj (a b c d e:Value) (w:World):(Instr.field 66 (.agg #[a,b,c,d,e]) 4).run Tryz.prog w=.ok e w:=by kernel_rfl
theorem vw (a b c d e:Value) (w:World):(Instr.field 66 (.agg #[a,b,c,d,e]) 0).run Tryz.prog w=.ok a w:=by kernel_rfl
theorem zaD (a b c d e:Value) (w:World):(Instr.field 66 (.agg #[a,b,c,d,e]) 1).run Tryz.prog w=.ok b w:=by kernel_rfl
theorem x9 (a b c d e:Value) (w:World):(Instr.field 66 (.agg #[a,b,c,d,e]) 3).run Tryz.prog w=.ok d w:=by kernel_rfl
theorem Z3 (r g o cap:Nat) (t:Tk) (ts:List Tk) (w:World) (h:zf r g o cap (t::ts) w) :
  Calls Tryz.prog 51 #[.pointer (some ⟨r,0,none⟩)] w fun e w'=>e=.returned (VP t)∧w'=w.alloc (ZK t):=by
 have y:=h.cell;have R:=h.hmax;have N:=h.hcap;have z:=h.toks 0 (.int .i64 t.k) (by simp [ZE])
 have H:=h.toks 1 (.string (zb t.s)) (by simp [ZE])
 have D:=h.toks 2 (.int .i64 t.n) (by simp [ZE])
 have A:=h.toks 3 (.int .i64 t.line) (by simp [ZE])
 have G:=h.toks 4 (.int .i64 t.at0) (by simp [ZE])
 clear h;simp only [List.length_cons,Nat.add_zero] at y N z;have K:=zj y;have Q:=zj z;have I:=zj H;have O:=zj D;have J:=zj A;have L:=zj G;clear y z H D A G
 go_enter Tryz.func51,Tryz.ntmps51
 go_wp2
 simp [bodyPost,results,Tryz.results51,go_sem]
theorem vx (r g o cap:Nat) (t:Tk) (ts:List Tk) (w:World) (h:zf r g o cap (t::ts) w) (hne:ts≠[]) :
  Calls Tryz.prog 93 #[.pointer (some ⟨r,0,none⟩)] w fun e w'=>e=.returned (.tuple #[])∧w'=w.setCell ⟨r,0,none⟩ (.slice (some ⟨g,o+5,none⟩) ts.length (cap-1)):=by
 have y:=h.cell;have A:=h.hmax;have s:=h.hcap;have z:=h.soft;clear h;simp only [List.length_cons] at y s
 go_enter Tryz.func93,Tryz.ntmps93
 go_wp2
 ·exfalso
  have:=List.length_pos_iff.2 hne
  omega
 ·simp [bodyPost,results,Tryz.results93]
theorem zf.keep {r g o cap:Nat} {ts:List Tk} {w w':World} (h:zf r g o cap ts w) (hr:w'.heap[r]?=w.heap[r]?) (hg:w'.heap[g]?=w.heap[g]?):zf r g o cap ts w' where
 cell:=by rw [World.cell?_of_block hr];exact h.cell
 soft:=by have:=h.soft;simp only [World.frozen?,hr] at this ⊢;exact this
 hcap:=h.hcap
 hmax:=h.hmax
 other:=h.other
 toks:=fun j u hj=>by rw [World.cell?_of_block hg];exact h.toks j u hj
 few:=h.few
theorem zf.next {r g o cap:Nat} {t:Tk} {ts:List Tk} {w:World} (h:zf r g o cap (t::ts) w):zf r g (o+5) (cap-1) ts (w.setCell ⟨r,0,none⟩ (.slice (some ⟨g,o+5,none⟩) ts.length (cap-1))) where
 cell:=World.cell?_setCell_same _ _ _ h.cell
 soft:=by rw [World.frozen?_setCell];exact h.soft
 hcap:=by have:=h.hcap;simp only [List.length_cons] at this;omega
 hmax:=by have:=h.hmax;omega
 other:=h.other
 toks:=fun j u hj=>by
  rw [World.cell?_setCell_other _ _ _ _ (by simp)]
  have:=h.toks (5+j) u (by simpa [ZE,List.getElem?_append,Nat.add_comm] using hj)
  rw [show o+5+j=o+(5+j) by omega];exact this
 few:=by have:=h.few;simp only [List.length_cons] at this;omega
theorem uA (r g o cap:Nat) (t:Tk) (ts:List Tk) (w:World) (h:zf r g o cap (t::ts) w) :
  Calls Tryz.prog 55 #[.pointer (some ⟨r,0,none⟩)] w fun e w'=>e=.panicked [{ v:=qv 6 t.at0,recovered:=false }]∧w'=w.alloc (ZK t):=by
 have s:=Z3 r g o cap t ts w h;have y:=zdj;have z:∀(v:Value) (w:World),(Instr.panic (.iface 145 v)).run Tryz.prog w=.halt (.panic (.iface 145 v)) w:=fun _ _=>rfl
 clear h
 go_enter Tryz.func55,Tryz.ntmps55
 go_wp2_with fail
 refine s.mono ?_;rintro e w' ⟨rfl,rfl⟩;simp only [VP];go_wp2
 exact ⟨rfl,rfl,rfl⟩
def zo (t:Tk) (s:List UInt8):Bool:=(t.k==4||t.k==5)&&t.s==s
theorem zev (r g o cap:Nat) (t:Tk) (ts:List Tk) (s:List UInt8) (w:World) (h:zf r g o cap (t::ts) w) :
  Calls Tryz.prog 92 #[.pointer (some ⟨r,0,none⟩),.string (zb s)] w fun e w'=>e=.returned (.bool (zo t s))∧w'=(w.alloc (ZK t)).alloc (ZK t):=by
 have z:=Z3 r g o cap t ts w h;clear h
 go_enter Tryz.func92,Tryz.ntmps92
 go_wp2_with fail
 refine z.mono ?_;clear z;rintro e w' ⟨rfl,rfl⟩;simp only [VP];go_wp2
 all_goals simp_all [bodyPost,results,Tryz.results92,zo]
 ·rename_i h
  have y:t.k=4:=by omega
  exact ⟨fun _=>.inl y,by simp [ZK,y]⟩
 ·rename_i h
  have y:t.k=5:=by omega
  exact ⟨fun _=>.inr y,by simp [ZK,y]⟩
 ·intro A;omega
end Go.Proofs.YtpejpbbdgblbeaaGreatDoor

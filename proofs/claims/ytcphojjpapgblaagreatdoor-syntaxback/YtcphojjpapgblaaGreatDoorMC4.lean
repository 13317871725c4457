import Derived.Test.YtcphojjpapgblaaGreatDoorMC3
import Derived.Lib.AppendIntMem
import Derived.Test.YtcphojjpapgblaaGreatDoorProg
import Derived.WalkKit
import Derived.LaidEql
import Derived.Stop.Asserts
import Derived.RowKitTokens
import Derived.Below
import Derived.LoopN
import Derived.Defers
import Derived.Recover
import Derived.Tactics
import Derived.Tactics2
import Derived.Laws.Pointers
import Derived.RangeFuncRecord
namespace Go.Proofs.YtcphojjpapgblaaGreatDoor
open Go.RowKit Go.Shelf
set_option maxHeartbeats 16000000
set_option maxRecDepth 100000
attribute [local go_sem] Oper.semAt_some
theorem ze4 (l:List UInt8) (w:World) (hl:4096<l.length) :
  Calls Tryz.prog 45 #[.string (zb l)] w fun e w'=>e=.returned (.tuple #[.slice none 0 0,.int .i64 0,.int .i64 5])∧Below w.heap.size w w':=by
 have y:(zb l).size=l.length:=rfl;have H:(4096:Int)<l.length:=by omega
 refine (callsIn_wide (n:=7)).1 ?_;refine callsIn_of_wp_marks Tryz.func45 rfl trivial ?_ rfl;simp only [Tryz.ntmps45,List.size_toArray,List.length_cons,List.length_nil,Nat.reduceAdd,Nat.reduceSub,Array.replicate_succ,Array.replicate_zero,List.push_toArray,List.append_toArray,List.nil_append,List.cons_append]
 gi_wp2
 have D:Boxed (((w.alloc (.cells #[.slice none 0 0] 57)).alloc (.cells #[.int .i64 0] 3)).alloc (.cells #[.int .i64 5] 26)) w.heap.size 57 (.slice none 0 0):=((Boxed.new w _ _).alloc _).alloc _
 have G:Boxed (((w.alloc (.cells #[.slice none 0 0] 57)).alloc (.cells #[.int .i64 0] 3)).alloc (.cells #[.int .i64 5] 26)) (w.heap.size+1) 3 (.int .i64 0):=by
  have h:=(Boxed.new (w.alloc (.cells #[.slice none 0 0] 57)) 3 (.int .i64 0)).alloc (.cells #[.int .i64 5] 26);rw [World.size_alloc] at h;exact h
 have A:Boxed (((w.alloc (.cells #[.slice none 0 0] 57)).alloc (.cells #[.int .i64 0] 3)).alloc (.cells #[.int .i64 5] 26)) (w.heap.size+1+1) 26 (.int .i64 5):=by
  have h:=Boxed.new ((w.alloc (.cells #[.slice none 0 0] 57)).alloc (.cells #[.int .i64 0] 3)) 26 (.int .i64 5);rw [World.size_alloc,World.size_alloc] at h;exact h
 have o:Below w.heap.size w (((w.alloc (.cells #[.slice none 0 0] 57)).alloc (.cells #[.int .i64 0] 3)).alloc (.cells #[.int .i64 5] 26)):=(((Below.refl _ w).alloc (Nat.le_refl _) _).alloc (by simp) _).alloc (by simp;omega) _
 have z:=D.cell;have c1:=G.cell;have c2:=A.cell;generalize ((w.alloc (.cells #[.slice none 0 0] 57)).alloc (.cells #[.int .i64 0] 3)).alloc (.cells #[.int .i64 5] 26)=W at z c1 c2 o ⊢;exact ⟨_,xW rfl _ _ _ rfl rfl rfl (by simp [go_sem,z]) (by simp [go_sem,c1]) (by simp [go_sem,c2]),rfl,o⟩
theorem zaJ (l:List UInt8) (w:World) (ht:yH w) :
  Calls Tryz.prog 45 #[.string (zb l)] w fun e w'=>∃(r:Value),e=.returned (.tuple #[r,.int .i64 (zW l).2.1,.int .i64 (zW l).2.2]) ∧
   w'.ownsRow w.heap.size 65 5 r (zW l).1.length (ZD (zW l).1)∧Below w.heap.size w w':=by
 by_cases h:4096<l.length
 ·refine (ze4 l w h).mono ?_
  rintro e w' ⟨rfl,o⟩
  unfold zW
  rw [if_pos h];exact ⟨_,rfl,World.ownsRow_nil _ _ _ _,o⟩
 ·refine (zgB l w (by omega) ht).mono ?_
  rintro e w' y
  unfold zW
  rw [if_neg h];exact y
theorem zdS {w:World} {B e sz n:Nat} {v:Value} {xs:List Value} (h:w.ownsRow B e sz v n xs) (hn:1≤n):∃g o,v=.slice (some ⟨g,0,none⟩) n o∧B≤g∧g<w.heap.size∧n≤o∧∀j u,xs[j]?=some u→w.cell? ⟨g,j,none⟩=some u:=by
 obtain ⟨-,⟨-,H⟩ | ⟨g,o,A,rfl,G,y,z,-,-,D⟩⟩:=h
 ·omega
 ·refine ⟨g,o,rfl,G,(Array.getElem?_eq_some_iff.1 y).1,z,fun j u hj=>?_⟩
  rw [cell_of_row _ _ _ _ _ _ y];rw [←D,List.getElem?_take] at hj
  split at hj
  ·rw [Array.getElem?_toList] at hj;exact hj
  ·cases hj
def Zr (c:UInt8):List UInt8:=if c.toNat=92 then [92,92] else if c.toNat=34 then [92,34] else if c.toNat=10 then [92,110] else [c]
def Z7 (s:List UInt8):List UInt8:=34::(s.flatMap Zr++[34])
theorem zhT {c:UInt8} {i:Nat} (hi:i<3) (he:(qB[i]'hi)=c.toNat):Zr c=[92,(uY[i]'hi).toUInt8]:=by
 have h:i=0∨i=1∨i=2:=by omega
 unfold Zr
 rcases h with rfl | rfl | rfl
 ·rw [←he];rfl
 ·rw [←he];rfl
 ·rw [←he];rfl
theorem zgC {c:UInt8} (h:∀j (hj:j<3),(qB[j]'hj)≠c.toNat):Zr c=[c]:=by
 have z:92≠c.toNat:=h 0 (by decide)
 have y:34≠c.toNat:=h 1 (by decide)
 have o:10≠c.toNat:=h 2 (by decide)
 unfold Zr
 rw [if_neg (by omega),if_neg (by omega),if_neg (by omega)]
theorem zgD (c:UInt8):(Zr c).length≤2:=by
 unfold Zr
 split
 ·simp
 ·split
  ·simp
  ·split <;> simp
theorem zaK {w:World} {g r q:Nat} (hr:r<256) (hq:q<256) (hc:w.cell? ⟨g,0,none⟩=some (.int .u8 (r:Int))) (hd:w.cell? ⟨g,1,none⟩=some (.int .u8 (q:Int))):Ub w (.slice (some ⟨g,0,none⟩) 2 2) [r.toUInt8,q.toUInt8] :=
 uG rfl (by unfold maxLen;decide) (fun j u hj=>by
  match j,hj with
  | 0,hj=>simp [Lib.byteCells,Lib.toUInt8_toNat hr] at hj;subst hj;exact hc
  | 1,hj=>simp [Lib.byteCells,Lib.toUInt8_toNat hq] at hj;subst hj;exact hd)
theorem zdT (B:Nat) (v:Value) (us:List UInt8) (c:UInt8) (w:World) (hown:w.ownsRow B 5 1 v us.length (Lib.byteCells us)) (hB:B≤w.heap.size) (hl:us.length≤1000000000) (ht:yH w) :
  Calls Tryz.prog 191 #[v,.int .u8 (c.toNat:Int)] w fun e w'=>∃v',e=.returned v'∧w'.ownsRow B 5 1 v' (us++Zr c).length (Lib.byteCells (us++Zr c)) ∧
   Below B w w'∧∀k,k<w.heap.size→some k≠v.ownBlock→w'.heap[k]?=w.heap[k]?:=by
 have e0:=ht.escs 0 (by decide)
 have Z:=ht.escs 1 (by decide)
 have e2:=ht.escs 2 (by decide)
 have e3:=ht.escs 3 (by decide)
 have Y:=ht.escs 4 (by decide)
 have e5:=ht.escs 5 (by decide)
 simp only [List.getElem_cons_zero,List.getElem_cons_succ] at e0 Z e2 e3 Y e5;clear ht;have X:Hid (w.ownsRow B 5 1 v us.length (Lib.byteCells us)):=hown;obtain ⟨n,V⟩:∃n,n=c.toNat:=⟨_,rfl⟩;have z:n<256:=by rw [V];exact UInt8.toNat_lt c
 rw [←V];have U:Hid (n=c.toNat):=V;clear hown V
 go_enter Tryz.func191,Tryz.ntmps191
 go_wp2
 clear e0 Z e2 e3 Y e5
 go_loopw [8] (fun x wr=>∃i:Nat,i≤3∧x=.int .i64 i∧(∀j (hj:j<3),j<i→(qB[j]'hj)≠n)∧Below w.heap.size w wr) (fun x _=>3-(intOf x).toNat)
 case atStart=>exact ⟨0,Nat.zero_le _,rfl,fun j _ h=>by omega,Below.refl _ _⟩
 case round =>
  obtain ⟨i,hi,rfl,D,A⟩:=hrel;have HA:Hid (∀j (hj:j<3),j<i→(qB[j]'hj)≠n):=D;have T:Hid (Below w.heap.size w wr):=A;have J:=A.size;have R:Hid (wr.ownsRow B 5 1 v us.length (Lib.byteCells us)):=V4 X.out A (Nat.le_refl _);clear D A
  by_cases hlt:i<3
  ·have L:=fun wx=>zaE wx i hlt
   obtain ⟨a,N⟩:∃a,a=qB[i]'hlt:=⟨_,rfl⟩;obtain ⟨b,Q⟩:∃b,b=uY[i]'hlt:=⟨_,rfl⟩
   have H:b<256:=by
    have:∀j (hj:j<3),(uY[j]'hj)<256:=by decide
    rw [Q];exact this i hlt
   rw [←N,←Q] at L
   by_cases he:a=n
   ·have O:Hid (Zr c=[(92:Nat).toUInt8,b.toUInt8]):=show _=_ by rw [Q];exact zhT hlt (by rw [←N,he,U.out])
    subst he;clear N Q
    go_wp2_with (at_builtin;refine Y5 rfl _ _ rfl B _ us rfl ((R.out.alloc _).alloc _) _ [(92:Nat).toUInt8,b.toUInt8] rfl (zaK (by decide) H (by simp) (by simp)) (by simp;omega) (by simp;omega) ?_;intro W w3 y o)
    have G:∀k,k<w.heap.size→some k≠v.ownBlock→w3.heap[k]?=w.heap[k]?:=fun k hk hne=>by
     rw [o.block k (by simp;omega) hne,Below.heap_alloc _ _ _ (by simp;omega),Below.heap_alloc _ _ _ (by omega),T.out.block k hk]
    have I:Below B w w3:=(((T.out.mono hB).alloc (by omega) _).alloc (by simp;omega) _).grown o (by simp;omega) (fun q hq=>(X.out.lt q hq).1)
    go_ret
    refine ⟨W,rfl,?_,I,G⟩;rw [O.out];exact y
   ·have aa:((a:Int)==(n:Int))=false:=by rw [beq_eq_false_iff_ne];omega
    have O:Hid ((qB[i]'hlt)≠n):=show (qB[i]'hlt)≠n by rw [←N];exact he
    clear N Q he;go_wp2
    refine ⟨⟨i+1,by omega,by go_num,fun j hj hji=>?_,T.out.alloc J _⟩,by simp [intOf];omega⟩
    by_cases h:j<i
    ·exact HA.out j hj h
    ·obtain rfl:j=i:=by omega
     exact O.out
  ·obtain rfl:i=3:=by omega
   have O:Hid (Zr c=[n.toUInt8]):=show _=_ by
    rw [zgC (fun j hj=>by rw [←U.out];exact HA.out j hj hj),U.out]
    congr 1
    exact (UInt8.toNat_inj.1 (Lib.toUInt8_toNat (by rw [←U.out];exact z))).symm
   go_wp2_with (at_builtin;refine Y5 rfl _ _ rfl B _ us rfl (R.out.alloc _) _ [n.toUInt8] rfl (XP z (by simp)) (by simp;omega) (by simp;omega) ?_;intro W w3 y o)
   have G:∀k,k<w.heap.size→some k≠v.ownBlock→w3.heap[k]?=w.heap[k]?:=fun k hk hne=>by
    rw [o.block k (by simp;omega) hne,Below.heap_alloc _ _ _ (by omega),T.out.block k hk]
   have I:Below B w w3:=((T.out.mono hB).alloc (by omega) _).grown o (by simp;omega) (fun q hq=>(X.out.lt q hq).1)
   go_ret
   refine ⟨W,rfl,?_,I,G⟩;rw [O.out];exact y
theorem zbZ (w:World) (c:Nat) (hc:c<256):(w.alloc (.cells #[.int .u8 (c:Int)] 5)).ownsRow w.heap.size 5 1 (.slice (some ⟨w.heap.size,0,none⟩) 1 1) [c.toUInt8].length (Lib.byteCells [c.toUInt8]):=by
 refine ⟨by simp [Lib.byteCells],.inr ⟨w.heap.size,1,#[.int .u8 (c:Int)],rfl,Nat.le_refl _,World.alloc_heap_new w _,Nat.le_refl _,by unfold maxLen;decide,by simp,?_⟩⟩
 simp [Lib.byteCells,Lib.toUInt8_toNat hc]
theorem zdU (s:List UInt8) (i:Nat) (h:i<s.length):(s.take (i+1)).flatMap Zr=(s.take i).flatMap Zr++Zr s[i]:=by
 rw [List.take_succ_eq_append_getElem h,List.flatMap_append]
 simp
theorem zaL (s:List UInt8):(s.flatMap Zr).length≤2*s.length:=by
 induction s with
 | nil=>simp
 | cons x s ih =>
  have:=zgD x
  rw [List.flatMap_cons,List.length_append,List.length_cons];omega
theorem zb0 (s:List UInt8) (w:World) (hl:s.length≤100000000) (ht:yH w) :
  Calls Tryz.prog 176 #[.string (zb s)] w fun e w'=>e=.returned (.string (zb (Z7 s)))∧Below w.heap.size w w':=by
 have HT:Hid (yH w):=ht;have ax:(zb s).size=s.length:=rfl;obtain ⟨w1,z⟩:∃w1,w1=w.alloc (.cells #[.int .u8 ((34:Nat):Int)] 5):=⟨_,rfl⟩;have Z:w1.heap.size=w.heap.size+1:=by rw [z];simp
 have X:Below w.heap.size w w1:=by rw [z];exact (Below.refl _ w).alloc (Nat.le_refl _) _
 have ad:w1.ownsRow w.heap.size 5 1 (.slice (some ⟨w.heap.size,0,none⟩) 1 1) [(34:Nat).toUInt8].length (Lib.byteCells [(34:Nat).toUInt8]):=by rw [z];exact zbZ w 34 (by decide)
 have T:=fun (wx:World)=>Lib.run_convert_string_bytes (P:=Tryz.prog) wx 9 119 5 (zb s) Tryz.underlying9 Tryz.underlying119 Tryz.underlying5
 have J:(Lib.bytesWorld w1 5 (zb s)).heap.size=w1.heap.size+1:=Lib.bytesWorld_size w1 5 _;have L:Below w1.heap.size w1 (Lib.bytesWorld w1 5 (zb s)):=bytesWorld_below w1 5 _
 have Q:∀j (h:j<s.length),(Lib.bytesWorld w1 5 (zb s)).cell? ⟨w1.heap.size,j,none⟩=some (.int .u8 ((s[j]).toNat:Int)):=fun j h=>by
  have h9:=Lib.bytesWorld_cell w1 5 (zb s) j h;rw [h9]
  simp [List.getD_eq_getElem?_getD,List.getElem?_eq_getElem h]
 have af:=Lib.bytesWorld_at_new w1 5 (zb s)
 have N:∀D,(Lib.bytesWorld w1 5 (zb s)).heap[w1.heap.size]?≠some (.cells D 5 (0,0)):=fun D h=>by
  rw [af] at h
  simp at h
 have aq:=grownCap_ge w1 (zb s).size 0 5;have aa:=grownCap_le_maxLen w1 (zb s).size 0 5 (by rw [Zd];unfold maxLen;omega)
 rw [Zd] at aq aa
 unfold maxLen at aa
 rw [Z] at J Q N;clear af ht
 go_enter Tryz.func176,Tryz.ntmps176
 go_wp2_with fail
 rw [show w.alloc (Obj.cells #[Value.int IntKind.u8 34] 5)=w1 from z.symm]
 generalize grownCap w1 s.length 0 5=cp at *;have ao:Hid (∀j (h:j<s.length),(Lib.bytesWorld w1 5 (zb s)).cell? ⟨w.heap.size+1,j,none⟩=some (.int .u8 ((s[j]).toNat:Int))):=Q;have ap:Hid (∀D,(Lib.bytesWorld w1 5 (zb s)).heap[w.heap.size+1]?≠some (.cells D 5 (0,0))):=N;have al:Hid (Below w.heap.size w (Lib.bytesWorld w1 5 (zb s))):=X.trans (L.mono (by omega))
 have ah:Hid ((Lib.bytesWorld w1 5 (zb s)).ownsRow w.heap.size 5 1 (.slice (some ⟨w.heap.size,0,none⟩) 1 1) [(34:Nat).toUInt8].length (Lib.byteCells [(34:Nat).toUInt8])):=V4 ad L (Nat.le_refl _);have av:Hid ((Lib.bytesWorld w1 5 (zb s)).heap.size=w.heap.size+2):=J;clear Q N X L ad J T z Z;generalize Lib.bytesWorld w1 5 (zb s)=w2 at *
 go_loopw [3,10] (fun vb vi wr=>∃i:Nat,i≤s.length∧vi=.int .i64 i∧wr.ownsRow w.heap.size 5 1 vb (34::(s.take i).flatMap Zr).length (Lib.byteCells (34::(s.take i).flatMap Zr))∧Below w.heap.size w wr∧wr.heap[w.heap.size+1]?=w2.heap[w.heap.size+1]?) (fun _ vi _=>s.length-(intOf vi).toNat)
 case atStart=>exact ⟨0,Nat.zero_le _,rfl,ah.out,al.out,rfl⟩
 case round =>
  obtain ⟨i,hi,rfl,G,I,W⟩:=hrel;have H:=I.size;have HB:Hid (Below w.heap.size w wr):=I;have HO:Hid (wr.ownsRow w.heap.size 5 1 u3 (34::(s.take i).flatMap Zr).length (Lib.byteCells (34::(s.take i).flatMap Zr))):=G;have R:Hid (wr.heap[w.heap.size+1]?=w2.heap[w.heap.size+1]?):=W
  have am:(34::(s.take i).flatMap Zr).length≤2*s.length+1:=by
   have h9:=zaL (s.take i);rw [List.length_take] at h9;rw [List.length_cons];omega
  clear G I W
  by_cases hlt:i<s.length
  ·have hc:wr.cell? ⟨w.heap.size+1,i,none⟩=some (.int .u8 ((s[i]).toNat:Int)):=by
    rw [World.cell?_of_block R.out];exact ao.out i hlt
   have ar:(i:Int)<s.length:=by omega
   have ca:=zdT w.heap.size u3 (34::(s.take i).flatMap Zr) s[i] wr HO.out H (by omega) (HT.out.below HB.out (Nat.le_refl _))
   have an:Hid ((34::(s.take i).flatMap Zr)++Zr s[i]=34::(s.take (i+1)).flatMap Zr):=by
    show _=_
    rw [zdU s i hlt];rfl
   rw [an.out] at ca
   have aj:Hid (some (w.heap.size+1)≠u3.ownBlock):=fun e=>by
    obtain ⟨-,⟨hv,-⟩ | ⟨g,aw,D,hv,-,hh,-⟩⟩:=HO.out
    ·rw [hv] at e;simp [Value.ownBlock] at e
    ·rw [hv] at e
     simp [Value.ownBlock] at e
     rw [←e,R.out] at hh;exact ap.out _ hh
   have hz:w.heap.size+1<wr.heap.size:=World.block_lt_of_cell? wr _ hc;obtain ⟨n,hn⟩:∃n,n=(s[i]).toNat:=⟨_,rfl⟩;rw [←hn] at hc ca;clear hn;go_wp2_with fail
   refine ca.mono ?_;clear ca;rintro e U ⟨v3,rfl,V,ag,Y⟩;have ak:Hid (U.ownsRow w.heap.size 5 1 v3 (34::(s.take (i+1)).flatMap Zr).length (Lib.byteCells (34::(s.take (i+1)).flatMap Zr))):=V;have O:Hid (Below w.heap.size w U):=HB.out.trans ag;have ai:Hid (U.heap[w.heap.size+1]?=w2.heap[w.heap.size+1]?):=(Y _ hz aj.out).trans R.out;clear V ag Y;go_wp2
   exact ⟨⟨i+1,by omega,by go_num,ak.out,O.out,ai.out⟩,by simp [intOf];omega⟩
  ·obtain rfl:i=s.length:=by omega
   have ar:¬ (s.length:Int)<s.length:=by omega
   have HQ:Hid (Z7 s=(34::(s.take s.length).flatMap Zr)++[(34:Nat).toUInt8]):=by
    show _=_
    rw [List.take_length];rfl
   obtain ⟨us,ae⟩:∃us,us=34::(s.take s.length).flatMap Zr:=⟨_,rfl⟩;rw [←ae] at HQ HO am;clear ae
   go_wp2_with (at_builtin;refine Y5 rfl _ _ rfl w.heap.size _ us rfl (HO.out.alloc _) _ [(34:Nat).toUInt8] rfl (XP (by decide) (by simp)) (by simp;omega) (by simp;omega) ?_;intro v3 U A o;obtain ⟨b3,ab,rfl,y,-,-,-⟩:=QM A;have au:=zaA U b3 _ ab y;rw [show (us++[(34:Nat).toUInt8]).length=us.length+1 by simp] at au ⊢)
   have O:Hid (Below w.heap.size w U):=(HB.out.alloc H _).grown o (by simp;omega) (fun q hq=>(HO.out.lt q hq).1)
   clear y A o;go_ret
   rw [HQ.out];exact ⟨rfl,O.out⟩
end Go.Proofs.YtcphojjpapgblaaGreatDoor
namespace Go.Proofs.YtcphojjpapgblaaGreatDoor
open Go.RowKit Go.Extern.Stop Go.Stop Go.Extern
set_option maxHeartbeats 16000000
set_option maxRecDepth 100000
theorem zaM (t:Addr) (w:World):(ReflectliteValue.unpack (.iface 146 (.pointer (some t)))).run Tryz.prog w
  = .ok (.agg #[.pointer (some ⟨11,146,none⟩),.pointer (some ⟨w.heap.size,0,none⟩),.int .u64 150]) (w.alloc (.cells #[.pointer (some t)] 146)):=by kernel_rfl
theorem ze5 (a : Addr) (w : World) : (ReflectliteValue.methodAny (ReflectliteValue.valueError "reflectlite.Value.Type" 0) (fun t _ _ _ => ReflectliteType.toType t) #[.agg #[.pointer (some ⟨11, 146, none⟩), .pointer (some a), .int .u64 150]]).run Tryz.prog w
  = .ok (.iface 195 (.agg #[.pointer (some ⟨11,146,none⟩)])) w:=by kernel_rfl
theorem qD (h : Value) (w : World) : (Go.method 386 195 (.agg #[h]) "Kind").run Tryz.prog w = .ok (240, h) w := by kernel_rfl
theorem ze6 (w:World):((ReflectliteType.abiMethod fun t=>(fun a:Nat=>Value.int IntKind.u8 (a:Int)) <$> Rtype.kind t) #[.pointer (some ⟨11,146,none⟩)]).run Tryz.prog w=.ok (.int .u8 22) w:=by kernel_rfl
theorem ze7 (w:World):((ReflectliteType.abiMethod fun t=>(fun a:Nat=>Value.int IntKind.u8 (a:Int)) <$> Rtype.kind t) #[.pointer (some ⟨11,144,none⟩)]).run Tryz.prog w=.ok (.int .u8 25) w:=by kernel_rfl
theorem ziR (z:Sem Value) (f:TypeId→Addr→Nat→Nat→Sem Value) (v:Value) :
  ReflectliteValue.method z f #[v]=(do match ←ReflectliteValue.parts v with | none=>z | some (t,a,fl)=>f t a fl (fl % 32)):=rfl
theorem Qb (a:Addr) (w:World):(ReflectliteValue.parts (.agg #[.pointer (some ⟨11,146,none⟩),.pointer (some a),.int .u64 150])).run Tryz.prog w=.ok (some (146,a,150)) w:=by kernel_rfl
theorem zdV (a p:Addr) (W:World) (ha:W.cell? a=some (.pointer (some p))) :
  (ReflectliteValue.method (ReflectliteValue.valueError "reflectlite.Value.IsNil" 0) ReflectliteValue.isNil #[.agg #[.pointer (some ⟨11, 146, none⟩), .pointer (some a), .int .u64 150]]).run Tryz.prog W = .ok (.bool false) W := by
 rw [ziR];simp only [Sem.run_bind,Qb,Result.andThen]
 simp [ReflectliteValue.isNil,loadVar,isAgg,underlying,Tryz.underlying146,ha,Result.andThen]
theorem qE (h : Value) (w : World) : (Go.method 386 195 (.agg #[h]) "Elem").run Tryz.prog w = .ok (251, .agg #[h]) w := by kernel_rfl
theorem vI (h : Value) (w : World) : (Go.method 386 195 (.agg #[h]) "Implements").run Tryz.prog w = .ok (252, .agg #[h]) w := by kernel_rfl
theorem XL (h : Value) (w : World) : (Go.method 386 195 (.agg #[h]) "AssignableTo").run Tryz.prog w = .ok (249, .agg #[h]) w := by kernel_rfl
theorem ze8 (w:World):(ReflectliteType.method ReflectliteType.elem #[.agg #[.pointer (some ⟨11,146,none⟩)]]).run Tryz.prog w=.ok (.iface 195 (.agg #[.pointer (some ⟨11,144,none⟩)])) w:=by kernel_rfl
theorem Uv (w : World) : (ReflectliteType.relation "Implements" ReflectliteType.implements_ #[.agg #[.pointer (some ⟨11, 144, none⟩)], .iface 195 (.agg #[.pointer (some ⟨11, 141, none⟩)])]).run Tryz.prog w = .ok (.bool true) w := by kernel_rfl
theorem zb1 (v:Value) (w:World):(ReflectliteType.typeOf #[.iface 144 v]).run Tryz.prog w=.ok (.iface 195 (.agg #[.pointer (some ⟨11,144,none⟩)])) w:=by kernel_rfl
theorem Uw (w : World) : (ReflectliteType.relation "AssignableTo" ReflectliteType.assignableTo #[.agg #[.pointer (some ⟨11, 144, none⟩)], .iface 195 (.agg #[.pointer (some ⟨11, 144, none⟩)])]).run Tryz.prog w = .ok (.bool true) w := by kernel_rfl
theorem zaN (a b:Value) (w:World):(ReflectliteValue.unpack (.iface 144 (.agg #[a,b]))).run Tryz.prog w
  = .ok (.agg #[.pointer (some ⟨11,144,none⟩),.pointer (some ⟨w.heap.size,0,none⟩),.int .u64 153]) (w.alloc (.cells #[a,b] 144)):=by kernel_rfl
theorem zb2 (w:World):(Rtype.elem? 146).run Tryz.prog w=.ok (some 144) w:=by kernel_rfl
theorem zhU (p:Addr) (w:World):(ReflectliteValue.mk 144 p ReflectliteValue.flagAddr).run Tryz.prog w=.ok (.agg #[.pointer (some ⟨11,144,none⟩),.pointer (some p),.int .u64 409]) w:=by kernel_rfl
theorem zdW (a p:Addr) (W:World) (ha:W.cell? a=some (.pointer (some p))) :
  (ReflectliteValue.method (ReflectliteValue.valueError "reflectlite.Value.Elem" 0) ReflectliteValue.elem #[.agg #[.pointer (some ⟨11, 146, none⟩), .pointer (some a), .int .u64 150]]).run Tryz.prog W
   = .ok (.agg #[.pointer (some ⟨11,144,none⟩),.pointer (some p),.int .u64 409]) W:=by
 rw [ziR];simp only [Sem.run_bind,Qb,Result.andThen]
 simp [ReflectliteValue.elem,loadVar,isAgg,underlying,Tryz.underlying146,ha,Result.andThen,zb2,zhU]
theorem zb3 (a:Addr) (w:World):(ReflectliteValue.parts (.agg #[.pointer (some ⟨11,144,none⟩),.pointer (some a),.int .u64 409])).run Tryz.prog w=.ok (some (144,a,409)) w:=by kernel_rfl
theorem zdX (a:Addr) (w:World):(ReflectliteValue.parts (.agg #[.pointer (some ⟨11,144,none⟩),.pointer (some a),.int .u64 153])).run Tryz.prog w=.ok (some (144,a,153)) w:=by kernel_rfl
theorem zb4 (w:World):(Rtype.directlyAssignable 144 144).run Tryz.prog w=.ok true w:=by kernel_rfl
theorem zjz (v x:Value):ReflectliteValue.set #[v,x]=(do
  let (some (dst,a,fl),some (src,b,_)):=(←ReflectliteValue.parts v,←ReflectliteValue.parts x)
   | unsupported (.noEntry "extern/(internal/reflectlite.Value).Set.zeroValue")
  if fl / ReflectliteValue.flagAddr % 2 == 0 then unsupported (.noEntry "extern/(internal/reflectlite.Value).Set.unaddressable")
  let val ←loadVar src b
  if ←Rtype.directlyAssignable dst src then storeVar dst a val
  else if ←Rtype.implements dst src then
   if (←Rtype.kind src)==20 then
    match val with
    | .nilIface => unsupported (.noEntry "extern/reflectlite: a nil value of one interface type handed on as a value of another")
    | _=>storeVar dst a val
   else storeVar dst a (.iface src val)
  else panicString ("reflectlite.Set: value of type " ++ (← Rtype.spelt src) ++ " is not assignable to type " ++ (← Rtype.spelt dst))
  pure (.tuple #[])):=rfl
theorem zgE (g h:Nat) (x y:Int) (o0 o1:Value) (W:World) (hx:W.cell? ⟨h,0,none⟩=some (.int .i64 x)) (hy:W.cell? ⟨h,1,none⟩=some (.int .i64 y)) (h0:W.cell? ⟨g,0,none⟩=some o0) (h1:W.cell? ⟨g,1,none⟩=some o1) (f0:W.frozen? ⟨g,0,none⟩=false) (f1:W.frozen? ⟨g,1,none⟩=false) :
  (ReflectliteValue.set #[.agg #[.pointer (some ⟨11,144,none⟩),.pointer (some ⟨g,0,none⟩),.int .u64 409],.agg #[.pointer (some ⟨11,144,none⟩),.pointer (some ⟨h,0,none⟩),.int .u64 153]]).run Tryz.prog W
   = .ok (.tuple #[]) ((W.setCell ⟨g,0,none⟩ (.int .i64 x)).setCell ⟨g,1,none⟩ (.int .i64 y)):=by
 have z:(loadCells ⟨h,0,none⟩ 2).run Tryz.prog W=.ok #[.int .i64 x,.int .i64 y] W:=by
  have e:=run_loadCells_list (P:=Tryz.prog) W ⟨h,0,none⟩ [.int .i64 x,.int .i64 y] (fun j v hj=>by
   match j,hj with
   | 0,hj=>simp at hj;subst hj;simpa [Addr.add] using hx
   | 1,hj=>simp at hj;subst hj;simpa [Addr.add] using hy)
  exact e
 rw [zjz];simp only [Sem.run_bind,zb3,zdX,Result.andThen]
 simp [ReflectliteValue.flagAddr,loadVar,z,Result.andThen,zb4,storeVar,Value.cells,storeCells,Addr.add]
 rw [run_store Tryz.prog W ⟨g,0,none⟩ _ _ (by rfl)]
 simp [h0,f0]
 have o:(W.setCell ⟨g,0,none⟩ (.int .i64 x)).cell? ⟨g,1,none⟩=some o1:=by
  rw [World.cell?_setCell_other W _ _ _ (by simp)];exact h1
 rw [run_store Tryz.prog (W.setCell ⟨g,0,none⟩ (.int .i64 x)) ⟨g,1,none⟩ _ _ (by rfl)]
 simp [o,f1]
theorem ze9 (why at0:Int) (g:Nat) (o0 o1:Value) (w:World) (hg:w.cell? ⟨0,0,none⟩=some (.iface 195 (.agg #[.pointer (some ⟨11,141,none⟩)]))) (ht0:w.cell? ⟨g,0,none⟩=some o0) (ht1:w.cell? ⟨g,1,none⟩=some o1) (hf0:w.frozen? ⟨g,0,none⟩=false) (hf1:w.frozen? ⟨g,1,none⟩=false) :
  Calls Tryz.prog 89 #[.iface 144 (.agg #[.int .i64 why,.int .i64 at0]),.iface 146 (.pointer (some ⟨g,0,none⟩))] w fun ev w'=>ev=.returned (.bool true)∧w'=((((((w.alloc (.cells #[.pointer (some ⟨g,0,none⟩)] 146)).alloc (.cells #[.pointer (some ⟨11,146,none⟩),.pointer (some ⟨w.heap.size,0,none⟩),.int .u64 150] 176)).alloc (.cells #[.pointer (some ⟨11,146,none⟩),.pointer (some ⟨w.heap.size,0,none⟩),.int .u64 150] 176)).alloc (.cells #[.int .i64 why,.int .i64 at0] 144)).setCell ⟨g,0,none⟩ (.int .i64 why)).setCell ⟨g,1,none⟩ (.int .i64 at0)):=by
 have h6:=@run_callFunc_extern Tryz.prog 129 _ (fun args=>ReflectliteValue.unpack (args.getD 0 (.tuple #[]))) Tryz.func129 (by kernel_rfl) (by kernel_rfl) (by kernel_rfl) (by kernel_rfl)
 have h7 := @run_callFunc_extern Tryz.prog 130 _ (ReflectliteValue.methodAny (ReflectliteValue.valueError "reflectlite.Value.Type" 0) (fun t _ _ _ => ReflectliteType.toType t)) Tryz.func130 (by kernel_rfl) (by kernel_rfl) (by kernel_rfl) (by kernel_rfl)
 have h8 := @run_callFunc_extern Tryz.prog 131 _ (ReflectliteValue.method (ReflectliteValue.valueError "reflectlite.Value.IsNil" 0) ReflectliteValue.isNil) Tryz.func131 (by kernel_rfl) (by kernel_rfl) (by kernel_rfl) (by kernel_rfl)
 have H:=@run_callFunc_extern Tryz.prog 240 _ (ReflectliteType.abiMethod fun t=>do pure (.int .u8 (←Rtype.kind t))) Tryz.func240 (by kernel_rfl) (by kernel_rfl) (by kernel_rfl) (by kernel_rfl)
 have T:=@run_callFunc_extern Tryz.prog 251 _ (ReflectliteType.method ReflectliteType.elem) Tryz.func251 (by kernel_rfl) (by kernel_rfl) (by kernel_rfl) (by kernel_rfl)
 have O := @run_callFunc_extern Tryz.prog 252 _ (ReflectliteType.relation "Implements" ReflectliteType.implements_) Tryz.func252 (by kernel_rfl) (by kernel_rfl) (by kernel_rfl) (by kernel_rfl)
 have Q:=@run_callFunc_extern Tryz.prog 159 _ ReflectliteType.typeOf Tryz.func159 (by kernel_rfl) (by kernel_rfl) (by kernel_rfl) (by kernel_rfl)
 have V := @run_callFunc_extern Tryz.prog 249 _ (ReflectliteType.relation "AssignableTo" ReflectliteType.assignableTo) Tryz.func249 (by kernel_rfl) (by kernel_rfl) (by kernel_rfl) (by kernel_rfl)
 have W := @run_callFunc_extern Tryz.prog 160 _ (ReflectliteValue.method (ReflectliteValue.valueError "reflectlite.Value.Elem" 0) ReflectliteValue.elem) Tryz.func160 (by kernel_rfl) (by kernel_rfl) (by kernel_rfl) (by kernel_rfl)
 have D:=@run_callFunc_extern Tryz.prog 161 _ ReflectliteValue.set Tryz.func161 (by kernel_rfl) (by kernel_rfl) (by kernel_rfl) (by kernel_rfl)
 have Y:=zb1;have mA:=XL;have I:=Uw;have G:=zaN;have f6:=zaM;have f7:=ze5;have Z:=qD;have X:=qE;have mI:=vI;have J:=ze6;have N:=ze7;have U:=ze8;have L:=Uv;have n8:=zdV ⟨w.heap.size,0,none⟩ ⟨g,0,none⟩ ((w.alloc (.cells #[.pointer (some ⟨g,0,none⟩)] 146)).alloc (.cells #[.pointer (some ⟨11,146,none⟩),.pointer (some ⟨w.heap.size,0,none⟩),.int .u64 150] 176)) (by simp)
 have y:0<w.heap.size:=World.block_lt_of_cell? w _ hg
 have R:((w.alloc (.cells #[.pointer (some ⟨g,0,none⟩)] 146)).alloc (.cells #[.pointer (some ⟨11,146,none⟩),.pointer (some ⟨w.heap.size,0,none⟩),.int .u64 150] 176)).cell? ⟨0,0,none⟩=some (.iface 195 (.agg #[.pointer (some ⟨11,141,none⟩)])):=by
  rw [World.cell?_alloc_lt _ _ ⟨0,0,none⟩ (by simp <;> omega),World.cell?_alloc_lt _ _ ⟨0,0,none⟩ y];exact hg
 have o:g<w.heap.size:=World.block_lt_of_cell? w _ ht0;have el:=zdW ⟨w.heap.size,0,none⟩ ⟨g,0,none⟩ (((w.alloc (.cells #[.pointer (some ⟨g,0,none⟩)] 146)).alloc (.cells #[.pointer (some ⟨11,146,none⟩),.pointer (some ⟨w.heap.size,0,none⟩),.int .u64 150] 176)).alloc (.cells #[.pointer (some ⟨11,146,none⟩),.pointer (some ⟨w.heap.size,0,none⟩),.int .u64 150] 176)) (by rw [World.cell?_alloc_lt _ _ ⟨w.heap.size,0,none⟩ (by simp;omega)];simp)
 have z:∀j v,w.cell? ⟨g,j,none⟩=some v→((((w.alloc (.cells #[.pointer (some ⟨g,0,none⟩)] 146)).alloc (.cells #[.pointer (some ⟨11,146,none⟩),.pointer (some ⟨w.heap.size,0,none⟩),.int .u64 150] 176)).alloc (.cells #[.pointer (some ⟨11,146,none⟩),.pointer (some ⟨w.heap.size,0,none⟩),.int .u64 150] 176)).alloc (.cells #[.int .i64 why,.int .i64 at0] 144)).cell? ⟨g,j,none⟩=some v:=fun j v h=>by
  rw [World.cell?_alloc_lt _ _ ⟨g,j,none⟩ (by simp;omega),World.cell?_alloc_lt _ _ ⟨g,j,none⟩ (by simp;omega),World.cell?_alloc_lt _ _ ⟨g,j,none⟩ (by simp;omega),World.cell?_alloc_lt _ _ ⟨g,j,none⟩ o];exact h
 have A:∀j,w.frozen? ⟨g,j,none⟩=false→((((w.alloc (.cells #[.pointer (some ⟨g,0,none⟩)] 146)).alloc (.cells #[.pointer (some ⟨11,146,none⟩),.pointer (some ⟨w.heap.size,0,none⟩),.int .u64 150] 176)).alloc (.cells #[.pointer (some ⟨11,146,none⟩),.pointer (some ⟨w.heap.size,0,none⟩),.int .u64 150] 176)).alloc (.cells #[.int .i64 why,.int .i64 at0] 144)).frozen? ⟨g,j,none⟩=false:=fun j h=>by
  rw [World.frozen?_alloc_old _ _ ⟨g,j,none⟩ (by simp;omega),World.frozen?_alloc_old _ _ ⟨g,j,none⟩ (by simp;omega),World.frozen?_alloc_old _ _ ⟨g,j,none⟩ (by simp;omega),World.frozen?_alloc_old _ _ ⟨g,j,none⟩ (Nat.ne_of_lt o)];exact h
 have st:=zgE g (w.heap.size+1+1+1) why at0 o0 o1 ((((w.alloc (.cells #[.pointer (some ⟨g,0,none⟩)] 146)).alloc (.cells #[.pointer (some ⟨11,146,none⟩),.pointer (some ⟨w.heap.size,0,none⟩),.int .u64 150] 176)).alloc (.cells #[.pointer (some ⟨11,146,none⟩),.pointer (some ⟨w.heap.size,0,none⟩),.int .u64 150] 176)).alloc (.cells #[.int .i64 why,.int .i64 at0] 144))
  (by rw [World.cell?_alloc_at _ _ _ _ (by simp)];rfl) (by rw [World.cell?_alloc_at _ _ _ _ (by simp)];rfl) (z 0 o0 ht0) (z 1 o1 ht1) (A 0 hf0) (A 1 hf1)
 clear z A
 go_enter Tryz.func89,Tryz.ntmps89
 go_wp2
 refine wp_loop_rounds 1 ?_;rw [rounds_succ];go_wp2
 go_ret
 exact ⟨rfl,rfl⟩
theorem QU (v:Value) (w:World):(Instr.typeAssert (.iface 144 v) 20 141 true).run Tryz.prog w=.ok (.tuple #[.iface 144 v,.bool true]) w:=by kernel_rfl
theorem zb5 (w:World):(Instr.typeAssert .nilIface 20 141 true).run Tryz.prog w=.ok (.tuple #[.nilIface,.bool false]) w:=by kernel_rfl
def xp (w:World):Prop:=w.cell? ⟨0,0,none⟩=some (.iface 195 (.agg #[.pointer (some ⟨11,141,none⟩)]))
theorem zb6 (p q:Addr) (w:World) :
  CallsD Tryz.prog 88 #[.pointer (some p),.pointer (some q)] .returning w fun e u' w'=>e=.returned (.tuple #[])∧u'=.returning∧w'=w:=by
 have h:=zb5;refine callsD_of_wpS Tryz.func88 rfl fun c₀ cs hu=>?_
 simp only [Tryz.ntmps88,List.size_toArray,List.length_cons,List.length_nil,Nat.reduceAdd,Nat.reduceSub,Array.replicate_succ,Array.replicate_zero,List.push_toArray,List.append_toArray,List.nil_append,List.cons_append]
 apply wpS_seq
 apply wpS_region
 simp [wpOpsS,go_sem,recoverD,hu,Exit.thenS,h]
 apply wpS_seq
 apply wpS_region
 simp [wpOpsS,go_sem,Exit.thenS]
 refine wpS_cond (t:=false) (by simp [Act.eval]) ?_
 simp only [Bool.false_eq_true,if_false];refine wpS_of_wp (wp_skip ?_);cases c₀
 simp_all [bodyPostS,results,Tryz.results88]
theorem zaO (N:Nat) (why at0 x y:Int) (older:List PanicEntry) (w:World) (h0:w.heap[N]?=some (.cells #[.int .i64 x] 3 (0,0))) (h1:w.heap[N+1]?=some (.cells #[.int .i64 y] 26 (0,0))) (hg:xp w) :
  CallsD Tryz.prog 88 #[.pointer (some ⟨N,0,none⟩),.pointer (some ⟨N+1,0,none⟩)] (.panicking ({ v:=.iface 144 (.agg #[.int .i64 why,.int .i64 at0]),recovered:=false }::older)) w fun e u' w' =>
   e=.returned (.tuple #[])∧u'=.panicking ({ v:=.iface 144 (.agg #[.int .i64 why,.int .i64 at0]),recovered:=true }::older)∧w'.cell? ⟨N,0,none⟩=some (.int .i64 at0)∧w'.cell? ⟨N+1,0,none⟩=some (.int .i64 why)∧Below N w w':=by
 have L:=QU;refine callsD_of_wpS Tryz.func88 rfl fun c₀ cs hu=>?_
 simp only [Tryz.ntmps88,List.size_toArray,List.length_cons,List.length_nil,Nat.reduceAdd,Nat.reduceSub,Array.replicate_succ,Array.replicate_zero,List.push_toArray,List.append_toArray,List.nil_append,List.cons_append]
 apply wpS_seq
 apply wpS_region
 simp [wpOpsS,go_sem,recoverD,hu,Exit.thenS,L]
 apply wpS_seq
 apply wpS_region
 simp [wpOpsS,go_sem,Exit.thenS]
 refine wpS_cond (t:=true) (by simp [Act.eval]) ?_
 simp only [if_true];refine wpS_of_wp ?_;have R:N+1<w.heap.size:=(Array.getElem?_eq_some_iff.1 h1).1;obtain ⟨w1,A⟩:∃w1,w1=w.alloc (.cells #[.int .i64 0,.int .i64 0] 144):=⟨_,rfl⟩;have aa:w1.heap.size=w.heap.size+1:=by rw [A];simp
 have o:w1.heap[w.heap.size]?=some (.cells #[.int .i64 0,.int .i64 0] 144 (0,0)):=by rw [A];exact World.alloc_heap_new w _
 have G:∀k,k<w.heap.size→w1.heap[k]?=w.heap[k]?:=fun k hk=>by rw [A];exact Below.heap_alloc w _ k hk
 have J:xp w1:=by
  unfold xp at hg ⊢
  have hl:=World.block_lt_of_cell? w _ hg;rw [World.cell?_of_block (G _ hl)];exact hg
 have O:=ze9 why at0 w.heap.size (.int .i64 0) (.int .i64 0) w1 J (by simp [World.cell?,o]) (by simp [World.cell?,o]) (by simp [World.frozen?,o]) (by simp [World.frozen?,o])
 rw [A] at O;go_wp2_with fail
 refine O.mono ?_;clear O;rw [←A];rintro e w2 ⟨rfl,D⟩
 have z:∀k,k<w.heap.size→w2.heap[k]?=w.heap[k]?:=fun k hk=>by
  rw [D,Below.heap_setCell _ _ _ _ (by simp;omega),Below.heap_setCell _ _ _ _ (by simp;omega),Below.heap_alloc _ _ _ (by simp;omega),Below.heap_alloc _ _ _ (by simp;omega),Below.heap_alloc _ _ _ (by simp;omega),Below.heap_alloc _ _ _ (by omega),G k hk]
 have W:∀j v,w1.cell? ⟨w.heap.size,j,none⟩=some v→∀o1 o2 o3 o4,((((w1.alloc o1).alloc o2).alloc o3).alloc o4).cell? ⟨w.heap.size,j,none⟩=some v:=fun j v h o1 o2 o3 o4=>by
  rw [World.cell?_alloc_lt _ _ ⟨w.heap.size,j,none⟩ (by simp;omega),World.cell?_alloc_lt _ _ ⟨w.heap.size,j,none⟩ (by simp;omega),World.cell?_alloc_lt _ _ ⟨w.heap.size,j,none⟩ (by simp;omega),World.cell?_alloc_lt _ _ ⟨w.heap.size,j,none⟩ (by simp;omega)];exact h
 have Y:w1.cell? ⟨w.heap.size,0,none⟩=some (.int .i64 0):=by simp [World.cell?,o]
 have c1:w1.cell? ⟨w.heap.size,1,none⟩=some (.int .i64 0):=by simp [World.cell?,o]
 have d0:w2.cell? ⟨w.heap.size,0,none⟩=some (.int .i64 why):=by
  rw [D,World.cell?_setCell_other _ _ _ _ (by simp),World.cell?_setCell_same _ _ _ (W 0 _ Y _ _ _ _)]
 have d1:w2.cell? ⟨w.heap.size,1,none⟩=some (.int .i64 at0):=by
  rw [D];refine World.cell?_setCell_same _ _ _ (u:=.int .i64 0) ?_;rw [World.cell?_setCell_other _ _ _ _ (by simp)]
  exact W 1 _ c1 _ _ _ _
 have X:w.heap.size≤w2.heap.size:=by rw [D];simp;omega
 have U:w2.heap[N]?=some (.cells #[.int .i64 x] 3 (0,0)):=(z N (by omega)).trans h0
 have Q:w2.heap[N+1]?=some (.cells #[.int .i64 y] 26 (0,0)):=(z (N+1) R).trans h1
 have H:Below N w w2:=by
  rw [D,A];exact (((((((Below.refl N w).alloc (by omega) _).alloc (by simp;omega) _).alloc (by simp;omega) _).alloc (by simp;omega) _).alloc (by simp;omega) _).setCell (p:=⟨w.heap.size,0,none⟩) (by simp;omega) _).setCell (p:=⟨w.heap.size,1,none⟩) (by simp;omega) _
 have T:Hid (Below N w w2):=H;have k0:w2.cell? ⟨N,0,none⟩=some (.int .i64 x):=by simp [World.cell?,U]
 have k1:w2.cell? ⟨N+1,0,none⟩=some (.int .i64 y):=by simp [World.cell?,Q]
 have ab:w2.frozen? ⟨N,0,none⟩=false:=by simp [World.frozen?,U]
 have ad:w2.frozen? ⟨N+1,0,none⟩=false:=by simp [World.frozen?,Q]
 have V:∀v,(w2.setCell ⟨N,0,none⟩ v).cell? ⟨N+1,0,none⟩=some (.int .i64 y):=fun v=>(World.cell?_setCell_other _ _ _ _ (by simp)).trans k1
 clear D z W Y c1 U Q H o G J A;go_wp2
 have I:Below N w ((w2.setCell ⟨N,0,none⟩ (.int .i64 at0)).setCell ⟨N+1,0,none⟩ (.int .i64 why)):=(T.out.setCell (p:=⟨N,0,none⟩) (by simp) _).setCell (p:=⟨N+1,0,none⟩) (by simp) _
 have e0:((w2.setCell ⟨N,0,none⟩ (.int .i64 at0)).setCell ⟨N+1,0,none⟩ (.int .i64 why)).cell? ⟨N,0,none⟩=some (.int .i64 at0):=by
  rw [World.cell?_setCell_other _ _ _ _ (by simp),World.cell?_setCell_same _ _ _ k0]
 have Z:((w2.setCell ⟨N,0,none⟩ (.int .i64 at0)).setCell ⟨N+1,0,none⟩ (.int .i64 why)).cell? ⟨N+1,0,none⟩=some (.int .i64 why):=World.cell?_setCell_same _ _ _ (V _)
 simp [bodyPostS,results,Tryz.results88]
 exact ⟨e0,Z,I⟩
abbrev QV (why at0:Int):Value:=.iface 144 (.agg #[.int .i64 why,.int .i64 at0])
abbrev zgF (w:World):World:=(w.alloc (.cells #[.int .i64 0] 3)).alloc (.cells #[.int .i64 0] 26)
end Go.Proofs.YtcphojjpapgblaaGreatDoor
namespace Go.Proofs.YtcphojjpapgblaaGreatDoor
open Go.RowKit Go.Shelf
set_option maxHeartbeats 16000000
set_option maxRecDepth 100000
abbrev uJ (t:Tk):Value:=.agg #[.int .i64 t.k,.string (zb t.s),.int .i64 t.n,.int .i64 t.line,.int .i64 t.at0]
abbrev ZL (t:Tk):Obj:=.cells #[.int .i64 t.k,.string (zb t.s),.int .i64 t.n,.int .i64 t.line,.int .i64 t.at0] 65
structure zf (r g o cap:Nat) (ts:List Tk) (w:World):Prop where
 cell:w.cell? ⟨r,0,none⟩=some (.slice (some ⟨g,o,none⟩) ts.length cap)
 soft:w.frozen? ⟨r,0,none⟩=false
 hcap:ts.length≤cap
 hmax:cap≤maxLen
 other:r≠g
 toks:∀j u,(ZD ts)[j]?=some u→w.cell? ⟨g,o+j,none⟩=some u
 few:ts.length≤1099511627776
theorem zl {w:World} {p:Addr} {v:Value} (h:w.cell? p=some v) (ob:Obj):(w.alloc ob).cell? p=some v:=by
 rw [World.cell?_alloc_lt _ _ p (World.block_lt_of_cell? w _ h)];exact h
theorem zfa (a b c d e:Value) (w:World):(Instr.field 65 (.agg #[a,b,c,d,e]) 4).run Tryz.prog w=.ok e w:=by kernel_rfl
theorem v8 (a b c d e:Value) (w:World):(Instr.field 65 (.agg #[a,b,c,d,e]) 0).run Tryz.prog w=.ok a w:=by kernel_rfl
theorem zb7 (a b c d e:Value) (w:World):(Instr.field 65 (.agg #[a,b,c,d,e]) 1).run Tryz.prog w=.ok b w:=by kernel_rfl
theorem Xu (a b c d e:Value) (w:World):(Instr.field 65 (.agg #[a,b,c,d,e]) 3).run Tryz.prog w=.ok d w:=by kernel_rfl
theorem Z8 (r g o cap:Nat) (t:Tk) (ts:List Tk) (w:World) (h:zf r g o cap (t::ts) w) :
  Calls Tryz.prog 49 #[.pointer (some ⟨r,0,none⟩)] w fun e w'=>e=.returned (uJ t)∧w'=w.alloc (ZL t):=by
 have z:=h.cell;have T:=h.hmax;have Q:=h.hcap;have y:=h.toks 0 (.int .i64 t.k) (by simp [ZD])
 have D:=h.toks 1 (.string (zb t.s)) (by simp [ZD])
 have H:=h.toks 2 (.int .i64 t.n) (by simp [ZD])
 have A:=h.toks 3 (.int .i64 t.line) (by simp [ZD])
 have G:=h.toks 4 (.int .i64 t.at0) (by simp [ZD])
 clear h;simp only [List.length_cons,Nat.add_zero] at z Q y;have R:=zl z;have L:=zl y;have N:=zl D;have O:=zl H;have I:=zl A;have J:=zl G;clear z y D H A G
 go_enter Tryz.func49,Tryz.ntmps49
 go_wp2
 simp [bodyPost,results,Tryz.results49,go_sem]
theorem Va (r g o cap:Nat) (t:Tk) (ts:List Tk) (w:World) (h:zf r g o cap (t::ts) w) (hne:ts≠[]) :
  Calls Tryz.prog 91 #[.pointer (some ⟨r,0,none⟩)] w fun e w'=>e=.returned (.tuple #[])∧w'=w.setCell ⟨r,0,none⟩ (.slice (some ⟨g,o+5,none⟩) ts.length (cap-1)):=by
 have z:=h.cell;have D:=h.hmax;have y:=h.hcap;have A:=h.soft;clear h;simp only [List.length_cons] at z y
 go_enter Tryz.func91,Tryz.ntmps91
 go_wp2
 ·exfalso
  have:=List.length_pos_iff.2 hne
  omega
 ·simp [bodyPost,results,Tryz.results91]
theorem zf.keep {r g o cap:Nat} {ts:List Tk} {w w':World} (h:zf r g o cap ts w) (hr:w'.heap[r]?=w.heap[r]?) (hg:w'.heap[g]?=w.heap[g]?):zf r g o cap ts w' where
 cell:=by rw [World.cell?_of_block hr];exact h.cell
 soft:=by have:=h.soft;simp only [World.frozen?,hr] at this ⊢;exact this
 hcap:=h.hcap
 hmax:=h.hmax
 other:=h.other
 toks:=fun j u hj=>by rw [World.cell?_of_block hg];exact h.toks j u hj
 few:=h.few
theorem zf.next {r g o cap:Nat} {t:Tk} {ts:List Tk} {w:World} (h:zf r g o cap (t::ts) w):zf r g (o+5) (cap-1) ts (w.setCell ⟨r,0,none⟩ (.slice (some ⟨g,o+5,none⟩) ts.length (cap-1))) where
 cell:=World.cell?_setCell_same _ _ _ h.cell
 soft:=by rw [World.frozen?_setCell];exact h.soft
 hcap:=by have:=h.hcap;simp only [List.length_cons] at this;omega
 hmax:=by have:=h.hmax;omega
 other:=h.other
 toks:=fun j u hj=>by
  rw [World.cell?_setCell_other _ _ _ _ (by simp)]
  have:=h.toks (5+j) u (by simpa [ZD,List.getElem?_append,Nat.add_comm] using hj)
  rw [show o+5+j=o+(5+j) by omega];exact this
 few:=by have:=h.few;simp only [List.length_cons] at this;omega
theorem Ux (r g o cap:Nat) (t:Tk) (ts:List Tk) (w:World) (h:zf r g o cap (t::ts) w) :
  Calls Tryz.prog 53 #[.pointer (some ⟨r,0,none⟩)] w fun e w'=>e=.panicked [{ v:=QV 6 t.at0,recovered:=false }]∧w'=w.alloc (ZL t):=by
 have y:=Z8 r g o cap t ts w h;have z:=zfa;have A:∀(v:Value) (w:World),(Instr.panic (.iface 144 v)).run Tryz.prog w=.halt (.panic (.iface 144 v)) w:=fun _ _=>rfl
 clear h
 go_enter Tryz.func53,Tryz.ntmps53
 go_wp2_with fail
 refine y.mono ?_;rintro e w' ⟨rfl,rfl⟩;simp only [uJ];go_wp2
 exact ⟨rfl,rfl,rfl⟩
def zm (t:Tk) (s:List UInt8):Bool:=(t.k==4||t.k==5)&&t.s==s
theorem zgG (r g o cap:Nat) (t:Tk) (ts:List Tk) (s:List UInt8) (w:World) (h:zf r g o cap (t::ts) w) :
  Calls Tryz.prog 90 #[.pointer (some ⟨r,0,none⟩),.string (zb s)] w fun e w'=>e=.returned (.bool (zm t s))∧w'=(w.alloc (ZL t)).alloc (ZL t):=by
 have z:=Z8 r g o cap t ts w h;clear h
 go_enter Tryz.func90,Tryz.ntmps90
 go_wp2_with fail
 refine z.mono ?_;clear z;rintro e w' ⟨rfl,rfl⟩;simp only [uJ];go_wp2
 all_goals simp_all [bodyPost,results,Tryz.results90,zm]
 ·rename_i h
  have y:t.k=4:=by omega
  exact ⟨fun _=>.inl y,by simp [ZL,y]⟩
 ·rename_i h
  have y:t.k=5:=by omega
  exact ⟨fun _=>.inr y,by simp [ZL,y]⟩
 ·intro A;omega
end Go.Proofs.YtcphojjpapgblaaGreatDoor

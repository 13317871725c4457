import Derived.Test.YtmbofhpmockmbaaGreatDoorProg
import Derived.WalkKit
import Derived.WalkSpells
import Derived.Lib.Walk
import Derived.Lib.Zigzag
import Derived.Lib.VarintMem
import Derived.Lib.VarintDec
import Derived.OwnWalk
import Derived.Lib.UnsafeStr
import Derived.Laws.AppendOwnNone
import Derived.Lib.SliceRun
import Derived.Lib.AppendZerosOnto
import Derived.Lib.ConvBytes
import Derived.Lib.EndianBits
import Derived.Lib.MinMax
import Derived.Laws.IdiomStrings
import Derived.Deep.QuietTactic
import Derived.BigQuiet
namespace Go.Proofs.YtmbofhpmockmbaaGreatDoor
open Go.RowKit
set_option maxHeartbeats 16000000
set_option maxRecDepth 100000
theorem uT (n:Int) (h0:-9223372036854775808≤n) (h1:n≤9223372036854775807) (w:World) :
  Calls Tryz.prog 85 #[.int .i64 n] w fun e w'=>e=.returned (.int .u64 (Lib.zigzag n))∧w=w':=by
 by_cases hn:n<0
 ·have o:=Lib.zigzag_neg h0 hn
  go_enter Tryz.func85,Tryz.ntmps85
  go_wp2
  go_ret
  exact ⟨rfl,rfl⟩
 ·have o:=Lib.zigzag_nonneg (x:=n) (by omega)
  go_enter Tryz.func85,Tryz.ntmps85
  go_wp2
  go_ret
  exact ⟨rfl,rfl⟩
theorem VG {f:Nat} (h:f % 2=1):Lib.unzigzag f=-((f / 2:Nat):Int)-1:=by
 unfold Lib.unzigzag;rw [if_neg (by omega)]
theorem X4 {f:Nat} (h:f % 2=0):Lib.unzigzag f=((f / 2:Nat):Int):=by
 unfold Lib.unzigzag;rw [if_pos h]
theorem Ym (f:Nat) (h1:f<18446744073709551616) (w:World) :
  Calls Tryz.prog 70 #[.int .u64 f] w fun e w'=>e=.returned (.int .i64 (Lib.unzigzag f))∧w=w':=by
 have E:=Lib.u64_and1 (f:Int) (by omega) (by omega)
 have A:=Lib.i64_not (f / 2) (by omega)
 have o:((f / 2:Nat):Int)=(f:Int) / 2:=by omega
 rw [o] at A;have y:f % 2=1∨f % 2=0:=by omega
 rcases y with y | y
 ·have z:Hid (Lib.unzigzag f=-((f:Int) / 2)-1):=by rw [VG y,o];rfl
  have D:(((f:Int) % 2)==1)=true:=by simp;omega
  clear o
  go_enter Tryz.func70,Tryz.ntmps70
  go_wp2
  go_ret
  exact ⟨by rw [z.out];rfl,rfl⟩
 ·have z:Hid (Lib.unzigzag f=(f:Int) / 2):=by rw [X4 y,o];rfl
  have D:(((f:Int) % 2)==1)=false:=by simp;omega
  clear o
  go_enter Tryz.func70,Tryz.ntmps70
  go_wp2
  go_ret
  exact ⟨by rw [z.out];rfl,rfl⟩
theorem Yc:(Tryz.prog.info? 5).map (fun i=>(i.zero,i.size,i.bytes))=some (some (.int .u8 0),1,1):=by kernel_rfl
def Zo (n:Int):List UInt8:=Lib.uvarint (Lib.zigzag n)
theorem Yv (B:Nat) (n:Int) (h0:-9223372036854775808≤n) (h1:n≤9223372036854775807) (w:World) (hB:B≤w.heap.size) :
  Calls Tryz.prog 68 #[.int .i64 n] w fun e w'=>∃v,e=.returned v∧w'.ownsRow B 5 1 v (Zo n).length (Lib.byteCells (Zo n))∧Below B w w':=by
 obtain ⟨i0,V,O,K,M⟩:=info_parts Yc;obtain ⟨x,R⟩:∃x,x=Lib.zigzag n:=⟨_,rfl⟩;have Q:x<18446744073709551616:=by rw [R];exact Lib.zigzag_lt h0 h1
 have T:=Lib.uvarint_length64 Q;have Y:Hid (x=Lib.zigzag n):=R
 unfold Zo
 rw [←R];clear R
 go_enter Tryz.func68,Tryz.ntmps68
 go_wp2_with (go_at_call 85;refine (uT _ h0 h1 _).mono ?_;rintro e w' ⟨rfl,rfl⟩;rw [←Y.out])
 go_loopw [3,4] (fun vb vx wr=>∃(y:Nat) (A:List UInt8),vx=.int .u64 y∧y≤x∧Lib.uvarint x=A++Lib.uvarint y∧wr.ownsRow B 5 1 vb A.length (Lib.byteCells A)∧Below B w wr)
  (fun _ vx _=>(intOf vx).toNat)
 case atStart=>exact ⟨x,[],rfl,Nat.le_refl _,rfl,World.ownsRow_nil _ _ _ _,Below.refl _ _⟩
 case round =>
  obtain ⟨y,A,rfl,hy,o,z,D⟩:=hrel
  have ab:A.length+(Lib.uvarint y).length≤10:=by
   have h2:=congrArg List.length o;rw [List.length_append] at h2;omega
  have aa:=Lib.uvarint_pos y;have U:Hid (Lib.uvarint x=A++Lib.uvarint y):=o;clear o
  by_cases h128:128≤y
  ·have Z:bits .or .u8 ((y:Int) % 256) 128=((y % 128+128:Nat):Int):=by
    rw [Lib.u8_or128_any _ (by omega) (by omega)]
    omega
   go_wp2_with (at_builtin;refine wpList_append_own _ rfl _ _ 39 rfl B 5 i0 (.int .u8 0) 1 1 Tryz.underlying39 V O K M rfl (by decide) _ _ _ rfl (z.alloc _) ⟨wr.heap.size,0,none⟩ 1 1 [Value.int .u8 ((y % 128+128:Nat):Int)] rfl rfl ?c1 ?c2 ?c3 ?c4 ?c5 ?_)
   case c1 =>
    intro j u I
    match j,I with
    | 0,I=>simp at I;subst I;simp [Addr.add]
   case c2=>intro u L;simp at L;subst L;rfl
   case c3=>unfold maxLen;omega
   case c4=>omega
   case c5=>have:=D.size;simp;omega
   intro W w1 E G _;have H:Below B w w1:=(D.alloc (by have:=D.size;omega) _).grown G (by have:=D.size;simp;omega) (fun k hk=>(z.lt k hk).1)
   go_wp2
   go_roundw
   case rel =>
    refine ⟨y / 128,A++[(y % 128+128).toUInt8],by go_num,by omega,by rw [U.out,Lib.uvarint_big h128];simp,?_,H⟩
    have X:((y % 128+128:Nat):Int)=(y:Int) % 128+128:=by omega
    rw [Lib.byteCells_snoc A (by omega),List.length_append,List.length_singleton,X]
    exact E
   case measure=>simp [intOf];omega
  ·have J:Lib.uvarint y=[y.toUInt8]:=Lib.uvarint_small (by omega)
   have HM:Hid (Lib.uvarint y=[y.toUInt8]):=J;clear J
   go_wp2_with (at_builtin;refine wpList_append_own _ rfl _ _ 39 rfl B 5 i0 (.int .u8 0) 1 1 Tryz.underlying39 V O K M rfl (by decide) _ _ _ rfl (z.alloc _) ⟨wr.heap.size,0,none⟩ 1 1 [Value.int .u8 (y:Int)] rfl rfl ?c1 ?c2 ?c3 ?c4 ?c5 ?_)
   case c1 =>
    intro j u I
    match j,I with
    | 0,I=>simp at I;subst I;simp [Addr.add]
   case c2=>intro u L;simp at L;subst L;rfl
   case c3=>unfold maxLen;omega
   case c4=>omega
   case c5=>have:=D.size;simp;omega
   intro W w1 E G _;have H:Below B w w1:=(D.alloc (by have:=D.size;omega) _).grown G (by have:=D.size;simp;omega) (fun k hk=>(z.lt k hk).1)
   go_wp2
   go_ret
   refine ⟨W,rfl,?_,H⟩;rw [U.out,HM.out,Lib.byteCells_snoc A (by omega),List.length_append,List.length_singleton]
   exact E
def zt (w:World) (v:Value) (bs:List UInt8):Prop :=
 ∃base cap,v=.slice base bs.length cap∧(base=none→bs=[]∧cap=0)∧bs.length≤cap∧cap≤maxLen ∧
  ∀a,base=some a→∀j u,(Lib.byteCells bs)[j]?=some u→w.cell? (a.add j)=some u
theorem YF (l:List UInt8):∀v∈Lib.byteCells l,v.oneCell'=true:=by
 intro v o;simp only [Lib.byteCells,List.mem_map] at o;obtain ⟨b,_,rfl⟩:=o
 rfl
theorem YS (w:World):zt w (.slice none 0 0) []:=⟨none,0,rfl,fun _=>⟨rfl,rfl⟩,Nat.le_refl _,Nat.zero_le _,fun a h=>by cases h⟩
theorem zK {w w':World} {v:Value} {bs:List UInt8} {B:Nat} (h:zt w v bs) (hb:Below B w w') (hB:w.heap.size≤B):zt w' v bs:=by
 obtain ⟨base,o,z,E,H,D,A⟩:=h;refine ⟨base,o,z,E,H,D,fun a ha j u hj=>?_⟩
 have y:=A a ha j u hj;have G:=World.block_lt_of_cell? w _ y;rw [hb.cell (by omega)]
 exact y
theorem Zy {w:World} {v:Value} {bs:List UInt8} (h:zt w v bs) (o:Obj):zt (w.alloc o) v bs :=
 zK h ((Below.refl w.heap.size w).alloc (Nat.le_refl _) o) (Nat.le_refl _)
theorem ZE {w:World} {v:Value} {bs:List UInt8} {B e n:Nat} (h:w.ownsRow B e 1 v n (Lib.byteCells bs)):zt w v bs:=by
 have z:=h.1;rw [Lib.byteCells_length,Nat.mul_one] at z;obtain ⟨_,G⟩:=h;rcases G with ⟨rfl,rfl⟩ | ⟨g,o,y,L,J,H,A,D,K,I⟩
 ·have:bs=[]:=List.length_eq_zero_iff.1 z
  subst this;exact YS w
 ·subst L
  refine ⟨some ⟨g,0,none⟩,o,by rw [z],(fun h=>by cases h),by omega,D,fun a ha j u hj=>?_⟩
  have E:w.ownsRow B e 1 (.slice (some ⟨g,0,none⟩) n o) n (Lib.byteCells bs):=⟨by rw [Lib.byteCells_length];omega,.inr ⟨g,o,y,rfl,J,H,A,D,K,I⟩⟩
  cases ha
  exact E.cells rfl j u hj
theorem V5 (v:Value) (bs:List UInt8) (w:World) (hv:zt w v bs) (hb:bs.length≤140737488355328) :
  Calls Tryz.prog 41 #[v] w fun e w'=>∃D,e=.returned D∧w'.ownsRow w.heap.size 5 1 D bs.length (Lib.byteCells bs)∧Below w.heap.size w w':=by
 obtain ⟨i0,M,L,G,I⟩:=info_parts Yc;obtain ⟨base,A,rfl,E,T,R,H⟩:=hv;cases base with
 | none =>
  obtain ⟨rfl,rfl⟩:=E rfl;have J:=fun (wx:World)=>Lib.run_eql_slice_nil (P:=Tryz.prog) wx 39 5 none 0 0 0 0 Tryz.underlying39
  clear H E;show Calls Tryz.prog 41 #[.slice none 0 0] w _
  go_enter Tryz.func41,Tryz.ntmps41
  go_wp2
  go_ret
  exact ⟨_,rfl,World.ownsRow_nil _ _ _ _,Below.refl _ _⟩
 | some a =>
  have J:=fun (wx:World)=>Lib.run_eql_slice_nil (P:=Tryz.prog) wx 39 5 (some a) bs.length A 0 0 Tryz.underlying39
  have K:=H a rfl;clear H E;have z:(w.alloc (.cells #[] 5)).ownsRow w.heap.size 5 1 (.slice (some ⟨w.heap.size,0,none⟩) 0 0) 0 []:=World.ownsRow_made w #[] 0 (Nat.le_refl _) (Nat.zero_le _) rfl
  go_enter Tryz.func41,Tryz.ntmps41
  go_wp2_with (at_builtin;refine wpList_append_own _ rfl _ _ 39 rfl w.heap.size 5 i0 (.int .u8 0) 1 1 Tryz.underlying39 M L G I rfl (by decide) _ _ _ rfl z a bs.length A (Lib.byteCells bs) rfl ?c0 ?c1 ?c2 ?c3 ?c4 ?c5 ?_)
  case c0=>rw [Lib.byteCells_length,Nat.mul_one]
  case c1=>intro j u O;exact Lib.cell?_alloc_some _ (K j u O)
  case c2=>exact YF bs
  case c3=>omega
  case c4=>omega
  case c5=>simp
  intro D Q o y _;go_wp2
  go_ret
  refine ⟨D,rfl,by simpa using o,?_⟩
  exact ((Below.refl _ _).alloc (Nat.le_refl _) _).grown y (by simp) (fun k hk=>(z.lt k hk).1)
theorem V6 (w:World) :
  Calls Tryz.prog 84 #[.slice none 0 0,.int .i64 0] w fun e w'=>∃v,e=.returned v∧w'.ownsRow w.heap.size 5 1 v 0 []∧Below w.heap.size w w':=by
 go_enter Tryz.func84,Tryz.ntmps84
 go_wp2
 go_ret
 exact ⟨_,rfl,World.ownsRow_nil _ _ _ _,Below.refl _ _⟩
theorem uU (n:Nat) (h0:0<n) (hb:n≤140737488355328) (w:World) :
  Calls Tryz.prog 84 #[.slice none 0 0,.int .i64 n] w fun e w'=>∃v,e=.returned v∧w'.ownsRow w.heap.size 5 1 v 0 []∧Below w.heap.size w w':=by
 obtain ⟨i0,Q,L,O,I⟩:=info_parts Yc;have z:(Builtin.firstCells i0.size 0 (.slice none 0 0)).run Tryz.prog w.drew=.ok ([]:List Value).toArray w.drew:=run_firstCells_none w.drew i0.size 0 0 0
 have E:∀ty,(Builtin.append_ #[39,3] ty #[.slice none 0 0,.int .i64 (n:Int)]).run Tryz.prog w =
   .ok (.slice (some ⟨w.heap.size,0,none⟩) n (grownCap w n 0 5)) (w.drew.alloc (.cells (([]:List Value).toArray++Builtin.zeroCells (Value.int .u8 0).cells n++Builtin.zeroCells (Value.int .u8 0).cells (grownCap w n 0 5-n)) 5)):=fun ty=>by
  have h:=Lib.run_append_grow_zeros w 39 3 ty 5 i0 (.int .u8 0) .i64 .i64 Tryz.underlying39 Tryz.underlying3 Q L none 0 0 [] z n h0 (by omega) (by omega) (by omega) (by rw [I];omega) (by rw [I];exact growslice_fits (by omega) (by omega))
  simpa using h
 have K:n≤grownCap w n 0 5:=grownCap_ge w _ _ _;have y:grownCap w n 0 5≤maxLen:=grownCap_le_maxLen w n 0 5 (by unfold maxLen;omega)
 obtain ⟨G,M⟩:∃G,G=grownCap w n 0 5:=⟨_,rfl⟩;rw [←M] at E K y
 have H:(([]:List Value).toArray++Builtin.zeroCells (Value.int .u8 0).cells n++Builtin.zeroCells (Value.int .u8 0).cells (G-n)).size=G*1:=by
  simp only [Array.size_append,size_zeroCells];show 0+n*1+(G-n)*1=G*1
  omega
 obtain ⟨o,A⟩:∃o,o=([]:List Value).toArray++Builtin.zeroCells (Value.int .u8 0).cells n++Builtin.zeroCells (Value.int .u8 0).cells (G-n):=⟨_,rfl⟩;rw [←A] at E H;clear A M z;have T:=y
 unfold maxLen at T
 have D:(w.drew.alloc (.cells o 5)).ownsRow w.heap.size 5 1 (.slice (some ⟨w.heap.size,0,none⟩) 0 G) 0 []:=World.ownsRow_made w.drew o G (Nat.le_refl _) y H;have J:Below w.heap.size w (w.drew.alloc (.cells o 5)):=(Below.refl _ _).drew.alloc (Nat.le_refl _) _;have R:Hid ((w.drew.alloc (.cells o 5)).ownsRow w.heap.size 5 1 (.slice (some ⟨w.heap.size,0,none⟩) 0 G) 0 []):=D;clear D H
 go_enter Tryz.func84,Tryz.ntmps84
 go_wp2_with (at_builtin;refine Lib.wpList_append_run _ rfl _ _ _ _ rfl _ _ rfl rfl _ _ (E _) ?_)
 all_goals go_ret
 all_goals exact ⟨_,rfl,R.out,J⟩
theorem uV (n:Nat) (hb:n≤140737488355328) (w:World) :
  Calls Tryz.prog 84 #[.slice none 0 0,.int .i64 n] w fun e w'=>∃v,e=.returned v∧w'.ownsRow w.heap.size 5 1 v 0 []∧Below w.heap.size w w':=by
 rcases Nat.eq_zero_or_pos n with rfl | h
 ·exact V6 w
 ·exact uU n h hb w
def ZP (ps:List (Value × List UInt8)) (k:Nat):List UInt8:=((ps.take k).map (fun p=>p.2)).flatten
theorem Xg (ps:List (Value × List UInt8)):ZP ps 0=[]:=by simp [ZP]
theorem Xh (ps:List (Value × List UInt8)) (k:Nat) (h:k<ps.length):ZP ps (k+1)=ZP ps k++(ps[k]).2:=by
 unfold ZP
 rw [List.take_succ_eq_append_getElem h,List.map_append,List.flatten_append,List.map_singleton,List.flatten_singleton]
theorem UJ (ps:List (Value × List UInt8)) (k:Nat):(ZP ps k).length≤(ZP ps ps.length).length:=by
 have h:ZP ps ps.length=ZP ps k++((ps.drop k).map (fun p=>p.2)).flatten:=by
  unfold ZP
  rw [List.take_length];rw [←List.flatten_append,←List.map_append,List.take_append_drop]
 rw [h,List.length_append];omega
theorem xg (g c:Nat) (ps:List (Value × List UInt8)) (w:World)
  (hcell:∀j p,ps[j]?=some p→w.cell? ⟨g,j,none⟩=some p.1) (hby:∀p∈ps,zt w p.1 p.2)
  (hm:ps.length≤1000) (hb:(ZP ps ps.length).length≤140737488355328) :
  Calls Tryz.prog 67 #[.slice (some ⟨g,0,none⟩) ps.length c] w fun e w'=>∃v,e=.returned v ∧
   w'.ownsRow w.heap.size 5 1 v (ZP ps ps.length).length (Lib.byteCells (ZP ps ps.length))∧Below w.heap.size w w':=by
 obtain ⟨i0,hi,ah,ae,ag⟩:=info_parts Yc;obtain ⟨m,G⟩:∃m,m=ps.length:=⟨_,rfl⟩;have HM:Hid (m=ps.length):=G;rw [←G] at hm hb ⊢;have y:=fun k=>UJ ps k
 rw [←G] at y;clear G
 go_enter Tryz.func67,Tryz.ntmps67
 go_wp2
 go_loop [3,11] (fun t i=>∃k:Nat,k≤m∧i=.int .i64 k∧t=.int .i64 (ZP ps k).length) (fun _ i=>m-(intOf i).toNat)
 case atStart=>exact ⟨0,Nat.zero_le _,rfl,by rw [Xg];rfl⟩
 case round =>
  obtain ⟨k,hk,rfl,rfl⟩:=hrel
  by_cases hlt:k<m
  ·have K:k<ps.length:=by rw [←HM.out];exact hlt
   have z:=hcell k ps[k] (List.getElem?_eq_getElem K);obtain ⟨base,M,V,R,h1,h2,T⟩:=hby ps[k] (List.getElem_mem K);rw [V] at z;have I:=Xh ps k K;have ab:=y k;have A:=y (k+1);rw [I,List.length_append] at A;have X:Hid (ZP ps (k+1)=ZP ps k++(ps[k]).2):=I;clear I V R T hcell hby;obtain ⟨q,U⟩:∃q,q=(ps[k]).2.length:=⟨_,rfl⟩;obtain ⟨q0,H⟩:∃q0,q0=(ZP ps k).length:=⟨_,rfl⟩;rw [←U] at z A h1;rw [←H] at ab A ⊢;have HQ:Hid (q=(ps[k]).2.length):=U;have ai:Hid (q0=(ZP ps k).length):=H;clear U H y;have ak:=hb;go_wp2
   go_round
   case rel=>exact ⟨k+1,by omega,by go_num,by rw [X.out,List.length_append,←HQ.out,←ai.out];go_num⟩
   case measure=>simp [intOf];omega
  ·obtain rfl:k=m:=by omega
   clear hlt hk;go_wp2_with (go_at_call 84;refine (uV _ hb _).mono ?_;rintro e w1 ⟨v1,rfl,E,Y⟩)
   go_loopw [6,27] (fun vb i wr=>∃j:Nat,j≤k∧i=.int .i64 j∧wr.ownsRow w.heap.size 5 1 vb (ZP ps j).length (Lib.byteCells (ZP ps j))∧Below w.heap.size w wr) (fun _ i _=>k-(intOf i).toNat)
   case atStart=>exact ⟨0,Nat.zero_le _,rfl,by rw [Xg];exact E,Y⟩
   case round =>
    obtain ⟨j,hj,rfl,o,D⟩:=hrel;have aj:=D.size
    by_cases hlt:j<k
    ·have O:j<ps.length:=by rw [←HM.out];exact hlt
     have z:=hcell j ps[j] (List.getElem?_eq_getElem O);obtain ⟨base,M,V,R,h1,h2,T⟩:=hby ps[j] (List.getElem_mem O);rw [V] at z;have ad:=World.block_lt_of_cell? w _ z;have af:wr.cell? ⟨g,j,none⟩=some (.slice base (ps[j]).2.length M):=(D.cell ad).trans z;have I:=Xh ps j O;have ab:=y j;have A:=y (j+1);rw [I,List.length_append] at A;have X:Hid (ZP ps (j+1)=ZP ps j++(ps[j]).2):=I;clear I V hcell hby z y Y E;obtain ⟨J,aa⟩:∃J,J=(ps[j]).2:=⟨_,rfl⟩;rw [←aa] at X A af h1 R T;clear aa;cases base with
     | none =>
      obtain ⟨rfl,rfl⟩:=R rfl;clear R T h1 h2;go_wp2_with (at_builtin;refine wpList_append_own_none rfl _ _ 39 rfl w.heap.size 5 i0 1 Tryz.underlying39 hi _ _ _ rfl o rfl ?_)
      go_roundw
      case rel=>exact ⟨j+1,by omega,by go_num,by rw [X.out,List.append_nil];exact o,D⟩
      case measure=>simp [intOf];omega
     | some a =>
      have Z:∀i u,(Lib.byteCells J)[i]?=some u→wr.cell? (a.add i)=some u:=fun i u hi'=>by
       have h:=T a rfl i u hi';rw [D.cell (World.block_lt_of_cell? w _ h)];exact h
      have HC:Hid (∀i u,(Lib.byteCells J)[i]?=some u→wr.cell? (a.add i)=some u):=Z;clear Z T R
      go_wp2_with (at_builtin;refine wpList_append_own _ rfl _ _ 39 rfl w.heap.size 5 i0 (.int .u8 0) 1 1 Tryz.underlying39 hi ah ae ag rfl (by decide) _ _ _ rfl o a J.length M (Lib.byteCells J) rfl ?c0 ?c1 ?c2 ?c3 ?c4 ?c5 ?_)
      case c0=>rw [Lib.byteCells_length]
      case c1=>exact HC.out
      case c2=>exact YF J
      case c3=>unfold maxLen;omega
      case c4=>omega
      intro v' w2 L Q _;have W:Below w.heap.size w w2:=D.grown Q (by omega) (fun q U=>(o.lt q U).1)
      go_wp2
      go_roundw
      case rel=>exact ⟨j+1,by omega,by go_num,by rw [X.out,List.length_append,Lib.byteCells_append];exact L,W⟩
      case measure=>simp [intOf];omega
    ·obtain rfl:j=k:=by omega
     go_wp2
     go_ret
     exact ⟨_,rfl,o,D⟩
theorem Zs {n:Int} (h0:-9223372036854775808≤n) (h1:n≤9223372036854775807):(Zo n).length≤10 :=
 Lib.uvarint_length64 (Lib.zigzag_lt h0 h1)
theorem xh {B C e n:Nat} {w:World} {v:Value} {xs:List Value} (h:w.ownsRow B e 1 v n xs) (hC:C≤B):w.ownsRow C e 1 v n xs:=by
 obtain ⟨D,o⟩:=h;refine ⟨D,?_⟩;rcases o with o | ⟨g,z,y,A,E,r⟩
 ·exact .inl o
 ·exact .inr ⟨g,z,y,A,by omega,r⟩
theorem UK (g:Nat) (v0 v1:Value) (b0 b1:List UInt8) (w:World) (h0:w.cell? ⟨g,0,none⟩=some v0) (h1:w.cell? ⟨g,1,none⟩=some v1)
  (hb0:zt w v0 b0) (hb1:zt w v1 b1) (hl:b0.length+b1.length≤140737488355328) :
  Calls Tryz.prog 67 #[.slice (some ⟨g,0,none⟩) 2 2] w fun e w'=>∃v,e=.returned v ∧
   w'.ownsRow w.heap.size 5 1 v (b0++b1).length (Lib.byteCells (b0++b1))∧Below w.heap.size w w':=by
 have h:=xg g 2 [(v0,b0),(v1,b1)] w
  (fun j p hj=>by
   match j,hj with
   | 0,hj=>simp at hj;subst hj;exact h0
   | 1,hj=>simp at hj;subst hj;exact h1)
  (fun p hp=>by
   simp at hp
   rcases hp with rfl | rfl
   ·exact hb0
   ·exact hb1) (by simp) (by simpa [ZP] using hl)
 have e:ZP [(v0,b0),(v1,b1)] [(v0,b0),(v1,b1)].length=b0++b1:=by simp [ZP]
 rw [e] at h;exact h
theorem UL (g:Nat) (v0 v1 v2:Value) (b0 b1 b2:List UInt8) (w:World) (h0:w.cell? ⟨g,0,none⟩=some v0) (h1:w.cell? ⟨g,1,none⟩=some v1) (h2:w.cell? ⟨g,2,none⟩=some v2)
  (hb0:zt w v0 b0) (hb1:zt w v1 b1) (hb2:zt w v2 b2) (hl:b0.length+b1.length+b2.length≤140737488355328) :
  Calls Tryz.prog 67 #[.slice (some ⟨g,0,none⟩) 3 3] w fun e w'=>∃v,e=.returned v ∧
   w'.ownsRow w.heap.size 5 1 v (b0++(b1++b2)).length (Lib.byteCells (b0++(b1++b2)))∧Below w.heap.size w w':=by
 have h:=xg g 3 [(v0,b0),(v1,b1),(v2,b2)] w
  (fun j p hj=>by
   match j,hj with
   | 0,hj=>simp at hj;subst hj;exact h0
   | 1,hj=>simp at hj;subst hj;exact h1
   | 2,hj=>simp at hj;subst hj;exact h2)
  (fun p hp=>by
   simp at hp
   rcases hp with rfl | rfl | rfl
   ·exact hb0
   ·exact hb1
   ·exact hb2) (by simp) (by simp [ZP];omega)
 have e:ZP [(v0,b0),(v1,b1),(v2,b2)] [(v0,b0),(v1,b1),(v2,b2)].length=b0++(b1++b2):=by simp [ZP]
 rw [e] at h;exact h
theorem xi (v:Value) (bs:List UInt8) (n:Int) (h0:-9223372036854775808≤n) (h1:n≤9223372036854775807) (w:World) (hv:zt w v bs) (hb:bs.length+10≤140737488355328) :
  Calls Tryz.prog 45 #[v,.int .i64 n] w fun e w'=>∃v',e=.returned v' ∧
   w'.ownsRow w.heap.size 5 1 v' (bs++Zo n).length (Lib.byteCells (bs++Zo n))∧Below w.heap.size w w':=by
 have J:=hv;have W:Hid (zt w v bs):=J;have Y:=Zs h0 h1;obtain ⟨base,G,rfl,y⟩:=hv;clear y J
 go_enter Tryz.func45,Tryz.ntmps45
 go_wp2_with fail
 refine (Yv w.heap.size n h0 h1 w (Nat.le_refl _)).mono ?_;rintro e H ⟨X,rfl,A,E⟩;have L:=ZE A;have Q:Hid (zt H X (Zo n)):=L;obtain ⟨o,z,rfl,y⟩:=L;clear y;have M:=E.size;go_wp2_with fail
 have U:(H.alloc (Obj.cells #[Value.slice base bs.length G,Value.slice o (Zo n).length z] 39)).cell? ⟨H.heap.size,0,none⟩=some (Value.slice base bs.length G):=by simp
 have T:(H.alloc (Obj.cells #[Value.slice base bs.length G,Value.slice o (Zo n).length z] 39)).cell? ⟨H.heap.size,1,none⟩=some (Value.slice o (Zo n).length z):=by simp
 refine (UK H.heap.size _ _ bs (Zo n) _ U T (Zy (zK W.out E (Nat.le_refl _)) _) (Zy Q.out _) (by omega)).mono ?_
 rintro e w2 ⟨R,rfl,D,K⟩;have I:w2.ownsRow w.heap.size 5 1 R (bs++Zo n).length (Lib.byteCells (bs++Zo n)):=xh D (by simp;omega)
 have O:Below w.heap.size w w2:=(E.alloc M _).trans (K.mono (by simp;omega))
 have V:Hid (w2.ownsRow w.heap.size 5 1 R (bs++Zo n).length (Lib.byteCells (bs++Zo n))∧Below w.heap.size w w2):=⟨I,O⟩;clear I O A D E K U T M;go_wp2
 go_ret
 exact ⟨_,rfl,V.out⟩
def yQ (s:ByteArray):List UInt8:=Zo s.size++s.data.toList
theorem ZV (s:ByteArray):s.data.toList.length=s.size:=by rw [Array.length_toList];rfl
theorem bytesWorld_below (w:World) (e:TypeId) (s:ByteArray):Below w.heap.size w (Lib.bytesWorld w e s):=by
 refine ⟨rfl,rfl,rfl,by rw [Lib.bytesWorld_size];omega,fun k hk=>Lib.bytesWorld_at_old w e s k hk⟩
theorem V7 (b j:Nat):(⟨b,0,none⟩:Addr).add j=⟨b,j,none⟩:=by
 unfold Addr.add
 split
 ·simp_all
 ·simp
theorem XE (w:World) (e:TypeId) (s:ByteArray) (hs:s.size≤maxLen):zt (Lib.bytesWorld w e s) (.slice (some ⟨w.heap.size,0,none⟩) s.size (grownCap w s.size 0 e)) s.data.toList:=by
 refine ⟨some ⟨w.heap.size,0,none⟩,grownCap w s.size 0 e,by rw [ZV],(fun h=>by cases h),by rw [ZV];exact grownCap_ge w _ _ _,grownCap_le_maxLen w _ _ _ hs,fun a ha j u hj=>?_⟩
 cases ha
 have o:j<s.data.toList.length:=by
  rcases Nat.lt_or_ge j s.data.toList.length with h | h
  ·exact h
  ·rw [List.getElem?_eq_none (by rw [Lib.byteCells_length];exact h)] at hj;cases hj
 have h:=Lib.bytesWorld_cell w e s j (by rw [←ZV];exact o)
 have y:(⟨w.heap.size,0,none⟩:Addr).add j=⟨w.heap.size,j,none⟩:=V7 w.heap.size j;rw [y,h]
 unfold Lib.byteCells at hj
 rw [List.getElem?_map,List.getElem?_eq_getElem o] at hj;rw [List.getD_eq_getElem?_getD,List.getElem?_eq_getElem o];exact hj
theorem X5 (v:Value) (bs:List UInt8) (s:ByteArray) (w:World) (hv:zt w v bs) (hb:bs.length+s.size+10≤140737488355328) :
  Calls Tryz.prog 46 #[v,.string s] w fun e w'=>∃v',e=.returned v' ∧
   w'.ownsRow w.heap.size 5 1 v' (bs++yQ s).length (Lib.byteCells (bs++yQ s))∧Below w.heap.size w w':=by
 have K:=hv;have HV:Hid (zt w v bs):=K;have V:-9223372036854775808≤(s.size:Int):=by omega
 have Y:(s.size:Int)≤9223372036854775807:=by omega
 have aa:=Zs V Y;obtain ⟨base,G,rfl,z⟩:=hv;clear z K;have I:=fun (wx:World)=>Lib.run_convert_string_bytes (P:=Tryz.prog) wx 9 39 5 s Tryz.underlying9 Tryz.underlying39 Tryz.underlying5
 go_enter Tryz.func46,Tryz.ntmps46
 go_wp2_with fail
 refine (Yv w.heap.size s.size V Y w (Nat.le_refl _)).mono ?_;rintro e o ⟨v1,rfl,D,H⟩;have M:=ZE D;have R:Hid (zt o v1 (Zo s.size)):=M;obtain ⟨y,A,rfl,z⟩:=M;clear z;have O:=H.size;have HC:Hid (zt (Lib.bytesWorld o 5 s) (.slice (some ⟨o.heap.size,0,none⟩) s.size (grownCap o s.size 0 5)) s.data.toList):=XE o 5 s (by unfold maxLen;omega)
 have Q:(Lib.bytesWorld o 5 s).heap.size=o.heap.size+1:=Lib.bytesWorld_size o 5 s;have J:Hid (Below o.heap.size o (Lib.bytesWorld o 5 s)):=bytesWorld_below o 5 s;go_wp2_with fail
 generalize hwb:Lib.bytesWorld o 5 s=wb at *;generalize grownCap o s.size 0 5=cp at *;have X:(wb.alloc (Obj.cells #[Value.slice base bs.length G,Value.slice y (Zo s.size).length A,Value.slice (some ⟨o.heap.size,0,none⟩) s.size cp] 39)).cell? ⟨o.heap.size+1,0,none⟩=some (Value.slice base bs.length G):=by rw [←Q];simp
 have W:(wb.alloc (Obj.cells #[Value.slice base bs.length G,Value.slice y (Zo s.size).length A,Value.slice (some ⟨o.heap.size,0,none⟩) s.size cp] 39)).cell? ⟨o.heap.size+1,1,none⟩=some (Value.slice y (Zo s.size).length A):=by rw [←Q];simp
 have U:(wb.alloc (Obj.cells #[Value.slice base bs.length G,Value.slice y (Zo s.size).length A,Value.slice (some ⟨o.heap.size,0,none⟩) s.size cp] 39)).cell? ⟨o.heap.size+1,2,none⟩=some (Value.slice (some ⟨o.heap.size,0,none⟩) s.size cp):=by rw [←Q];simp
 refine (UL (o.heap.size+1) _ _ _ bs (Zo s.size) s.data.toList _ X W U (Zy (zK (zK HV.out H (Nat.le_refl _)) J.out (Nat.le_refl _)) _) (Zy (zK R.out J.out (Nat.le_refl _)) _) (Zy HC.out _) (by rw [ZV];omega)).mono ?_
 rintro e T ⟨v2,rfl,E,L⟩
 have Z:Hid (T.ownsRow w.heap.size 5 1 v2 (bs++yQ s).length (Lib.byteCells (bs++yQ s))∧Below w.heap.size w T) :=
  ⟨xh E (by simp;omega),((H.trans (J.out.mono O)).alloc (by omega) _).trans (L.mono (by simp;omega))⟩
 clear E L D H X W U Q O I;go_wp2
 go_ret
 exact ⟨_,rfl,Z.out⟩
def ZI (w:World) (base:Option Addr) (bs:List UInt8):Prop :=
 bs=[]∨∃b o,base=some ⟨b,o,none⟩∧∀j (h:j<bs.length),w.cell? ⟨b,o+j,none⟩=some (.int .u8 (bs[j].toNat:Int))
def Zx (i acc:Nat):List UInt8→Nat × Nat × Nat
 | []=>(0,0,3)
 | x::r=>if (0<i∧x.toNat=0)∨(i=9∧x.toNat≠1) then (0,0,4) else if x.toNat<128 then (acc+x.toNat % 128*128 ^ i,i+1,0) else Zx (i+1) (acc+x.toNat % 128*128 ^ i) r
def zL (bs:List UInt8):Int × Nat × Nat :=
 if (Zx 0 0 bs).2.2=0 then (Lib.unzigzag (Zx 0 0 bs).1,(Zx 0 0 bs).2.1,0) else (0,0,(Zx 0 0 bs).2.2)
theorem Yw {bs:List UInt8} {e:Nat} (h:Zx 0 0 bs=(0,0,e)) (he:e≠0):zL bs=(0,0,e):=by
 unfold zL;rw [h];simp [he]
theorem VH {bs:List UInt8} {f k:Nat} (h:Zx 0 0 bs=(f,k,0)):zL bs=(Lib.unzigzag f,k,0):=by
 unfold zL;rw [h];simp
theorem XF {bs:List UInt8} {k:Nat} (h:k<bs.length):bs.drop k=bs[k]::bs.drop (k+1):=(List.getElem_cons_drop h).symm
theorem X6 {bs:List UInt8} {k acc:Nat} (h:k<bs.length) (hb:(0<k∧bs[k].toNat=0)∨(k=9∧bs[k].toNat≠1)):Zx k acc (bs.drop k)=(0,0,4):=by
 rw [XF h];unfold Zx;rw [if_pos hb]
theorem X7 {bs:List UInt8} {k acc:Nat} (h:k<bs.length) (hb:¬ ((0<k∧bs[k].toNat=0)∨(k=9∧bs[k].toNat≠1))) (hx:bs[k].toNat<128):Zx k acc (bs.drop k)=(acc+bs[k].toNat % 128*128 ^ k,k+1,0):=by
 rw [XF h];unfold Zx;rw [if_neg hb,if_pos hx]
theorem Xi {bs:List UInt8} {k acc:Nat} (h:k<bs.length) (hb:¬ ((0<k∧bs[k].toNat=0)∨(k=9∧bs[k].toNat≠1))) (hx:¬ bs[k].toNat<128):Zx k acc (bs.drop k)=Zx (k+1) (acc+bs[k].toNat % 128*128 ^ k) (bs.drop (k+1)):=by
 rw [XF h];conv=>lhs;unfold Zx
 rw [if_neg hb,if_neg hx]
theorem Xj {bs:List UInt8} {k acc:Nat} (h:bs.length≤k):Zx k acc (bs.drop k)=(0,0,3):=by
 rw [List.drop_eq_nil_of_le h];rfl
theorem v8:∀a:Fin 256,bits .andNot .u8 (a.val:Int) 128=((a.val % 128:Nat):Int):=by decide
theorem qa (k:Nat):(128:Nat) ^ k=2 ^ (7*k):=by rw [Nat.pow_mul]
theorem U4 {k x:Nat} (hk:k≤9) (hx:k=9→x % 128≤1):x % 128*128 ^ k<18446744073709551616:=by
 have z:x % 128<128:=Nat.mod_lt _ (by decide)
 rcases Nat.lt_or_ge k 9 with h | h
 ·have y:(128:Nat) ^ k≤128 ^ 8:=Nat.pow_le_pow_right (by decide) (by omega)
  have o:x % 128*128 ^ k≤127*128 ^ 8:=Nat.mul_le_mul (by omega) y
  exact Nat.lt_of_le_of_lt o (by decide)
 ·obtain rfl:k=9:=by omega
  have o:x % 128*128 ^ 9≤1*128 ^ 9:=Nat.mul_le_mul (hx rfl) (Nat.le_refl _);exact Nat.lt_of_le_of_lt o (by decide)
theorem UM {k acc x:Nat} (hk:k≤9) (hacc:acc<128 ^ k) (hx:x<256) (h9:k=9→x % 128≤1) :
  bits .or .u64 (acc:Int) (IntKind.u64.wrap (IntKind.u64.wrap (bits .andNot .u8 (x:Int) 128)*2 ^ (7*k)))=((acc+x % 128*128 ^ k:Nat):Int):=by
 have E:bits .andNot .u8 (x:Int) 128=((x % 128:Nat):Int):=v8 ⟨x,hx⟩;have G:=U4 hk h9;have H:x % 128<128:=Nat.mod_lt _ (by decide)
 have z:IntKind.u64.wrap ((x % 128:Nat):Int)=((x % 128:Nat):Int):=wraps_u64 _ (by omega) (by omega)
 have e:((x % 128:Nat):Int)*2 ^ (7*k)=((x % 128*128 ^ k:Nat):Int):=by
  rw [qa,Int.natCast_mul,Int.natCast_pow];rfl
 have D:IntKind.u64.wrap ((x % 128*128 ^ k:Nat):Int)=((x % 128*128 ^ k:Nat):Int):=wraps_u64 _ (by omega) (by omega)
 rw [E,z,e,D]
 have A:(acc:Int)<2 ^ (7*k):=by
  rw [qa] at hacc;have h:=Int.ofNat_lt.2 hacc;rw [Int.natCast_pow] at h;exact h
 have y:acc<18446744073709551616:=by
  exact Nat.lt_trans (Nat.lt_of_lt_of_le hacc (Nat.pow_le_pow_right (by decide) hk)) (by decide)
 have o:((x % 128*128 ^ k:Nat):Int) % 2 ^ (7*k)=0:=by
  rw [←e];exact Int.mul_emod_left _ _
 have h:=bits_join_low .u64 64 (by decide) wraps_u64 (7*k) (acc:Int) ((x % 128*128 ^ k:Nat):Int) (by omega) A (by omega) (by omega) o (by omega)
 rw [h];omega
theorem Va {k acc x:Nat} (hacc:acc<128 ^ k):acc+x % 128*128 ^ k<128 ^ (k+1):=by
 have o:x % 128≤127:=by omega
 have y:x % 128*128 ^ k≤127*128 ^ k:=Nat.mul_le_mul_right _ o;rw [Nat.pow_succ];omega
theorem Vb {k acc x:Nat} (hk:k≤9) (hacc:acc<128 ^ k) (h9:k=9→x % 128≤1):acc+x % 128*128 ^ k<18446744073709551616:=by
 have D:x % 128<128:=Nat.mod_lt _ (by decide)
 rcases Nat.lt_or_ge k 9 with h | h
 ·have o:=Va (x:=x) hacc
  exact Nat.lt_trans (Nat.lt_of_lt_of_le o (Nat.pow_le_pow_right (by decide) (show k+1≤9 by omega))) (by decide)
 ·obtain rfl:k=9:=by omega
  have z:x % 128*128 ^ 9≤1*128 ^ 9:=Nat.mul_le_mul (h9 rfl) (Nat.le_refl _);have A:(1:Nat)*128 ^ 9=9223372036854775808:=by decide
  have y:(128:Nat) ^ 9=9223372036854775808:=by decide
  omega
theorem Yx {a b:Int × Nat × Nat} (h:a=b):(Ending.returned (.tuple #[.int .i64 b.1,.int .i64 b.2.1,.int .i64 b.2.2]):Ending)=Ending.returned (.tuple #[.int .i64 a.1,.int .i64 a.2.1,.int .i64 a.2.2]):=by rw [h]
theorem xj (base:Option Addr) (bs:List UInt8) (cap:Nat) (w:World) (hr:ZI w base bs) (hl:bs.length≤maxLen) :
  Calls Tryz.prog 50 #[.slice base bs.length cap] w fun e w'=>e=.returned (.tuple #[.int .i64 (zL bs).1,.int .i64 (zL bs).2.1,.int .i64 (zL bs).2.2])∧w=w':=by
 unfold maxLen at hl
 obtain ⟨D,E⟩:∃D,D=bs.length:=⟨_,rfl⟩;have HL:Hid (D=bs.length):=E;rw [←E] at hl ⊢;clear E
 go_enter Tryz.func50,Tryz.ntmps50
 go_wp2
 go_loop [5,10] (fun f i=>∃k z:Nat,k≤D∧k≤9∧i=.int .i64 k∧f=.int .u64 z∧z<128 ^ k∧Zx 0 0 bs=Zx k z (bs.drop k)) (fun _ i=>D-(intOf i).toNat)
 case atStart=>exact ⟨0,0,Nat.zero_le _,Nat.zero_le _,rfl,rfl,by simp,rfl⟩
 case round =>
  obtain ⟨k,z,hk,V,rfl,rfl,Q,Z⟩:=hrel;have L:Hid (Zx 0 0 bs=Zx k z (bs.drop k)):=Z;have HA:Hid (z<128 ^ k):=Q;clear Z Q
  by_cases hlt:k<D
  ·have G:k<bs.length:=by rw [←HL.out];exact hlt
   rcases hr with rfl | ⟨b,o,rfl,H⟩
   ·simp at G
   ·have hc:=H k G
    obtain ⟨x,hx⟩:∃x,x=bs[k].toNat:=⟨_,rfl⟩;have T:x<256:=by rw [hx];exact UInt8.toNat_lt _
    rw [←hx] at hc;have U:Hid (x=bs[k].toNat):=hx;clear hx H
    by_cases hbad:(0<k∧x=0)∨(k=9∧x≠1)
    ·have K:Hid (zL bs=(0,0,4)):=Yw (L.out.trans (X6 G (by rw [←U.out];exact hbad))) (by decide)
     rcases hbad with ⟨Y,R⟩ | ⟨Y,R⟩
     ·have J:((x:Int)==0)=true:=by rw [beq_iff_eq];omega
      clear R;go_wp2
      go_ret3
      exact ⟨Yx K.out,rfl⟩
     ·have W:0<k:=by omega
      have t2:((k:Int)==9)=true:=by rw [beq_iff_eq];omega
      have t3:((x:Int) != 1)=true:=by rw [bne_iff_ne];omega
      clear Y R
      by_cases hx0:x=0
      ·have J:((x:Int)==0)=true:=by rw [beq_iff_eq];omega
       clear hx0;go_wp2
       go_ret3
       exact ⟨Yx K.out,rfl⟩
      ·have J:((x:Int)==0)=false:=by rw [beq_eq_false_iff_ne];omega
       clear hx0;go_wp2
       go_ret3
       exact ⟨Yx K.out,rfl⟩
    ·have h9:k=9→x % 128≤1:=by omega
     have ad:=UM V HA.out T h9;have M:=Vb V HA.out h9;have I:=Va (x:=x) HA.out;obtain ⟨y,A⟩:∃y,y=z+x % 128*128 ^ k:=⟨_,rfl⟩;rw [←A] at ad M I;have ab:Hid (y=z+x % 128*128 ^ k):=A;have aa:Hid (y<128 ^ (k+1)):=I;have O:Hid (¬ ((0<k∧x=0)∨(k=9∧x≠1))):=hbad;have X:k<10:=by omega
     clear A I h9;have J:0<k→((x:Int)==0)=false:=fun h=>by rw [beq_eq_false_iff_ne];omega
     have W:k=9→((x:Int) != 1)=false:=fun h=>by rw [bne_eq_false_iff_eq];omega
     by_cases hx128:x<128
     ·have K:Hid (zL bs=(Lib.unzigzag y,k+1,0)):=VH (L.out.trans (by rw [X7 G (by rw [←U.out];exact O.out) (by rw [←U.out];exact hx128),ab.out,U.out]))
      clear hbad
      by_cases hk0:0<k
      ·have u0:=J hk0
       by_cases hkk:k=9
       ·have u1:=W hkk
        have u2:((k:Int)==9)=true:=by rw [beq_iff_eq];omega
        clear J W hkk;go_wp2_with (go_at_call 70;refine (Ym _ M _).mono ?_;rintro e w' ⟨rfl,rfl⟩)
        go_ret3
        exact ⟨Yx K.out,rfl⟩
       ·have u2:((k:Int)==9)=false:=by rw [beq_eq_false_iff_ne];omega
        clear J W hkk;go_wp2_with (go_at_call 70;refine (Ym _ M _).mono ?_;rintro e w' ⟨rfl,rfl⟩)
        go_ret3
        exact ⟨Yx K.out,rfl⟩
      ·have u2:((k:Int)==9)=false:=by rw [beq_eq_false_iff_ne];omega
       clear J W;go_wp2_with (go_at_call 70;refine (Ym _ M _).mono ?_;rintro e w' ⟨rfl,rfl⟩)
       go_ret3
       exact ⟨Yx K.out,rfl⟩
     ·have HM:Hid (Zx 0 0 bs=Zx (k+1) y (bs.drop (k+1))):=L.out.trans (by rw [Xi G (by rw [←U.out];exact O.out) (by rw [←U.out];exact hx128),ab.out,U.out])
      have ae:k≤8:=by omega
      have u2:((k:Int)==9)=false:=by rw [beq_eq_false_iff_ne];omega
      clear hbad W V X
      by_cases hk0:0<k
      ·have u0:=J hk0
       clear J;go_wp2
       go_round
       case rel=>exact ⟨k+1,y,by omega,by omega,by go_num,rfl,aa.out,HM.out⟩
       case measure=>simp [intOf];omega
      ·clear J
       go_wp2
       go_round
       case rel=>exact ⟨k+1,y,by omega,by omega,by go_num,rfl,aa.out,HM.out⟩
       case measure=>simp [intOf];omega
  ·have K:Hid (zL bs=(0,0,3)):=Yw (L.out.trans (Xj (by rw [←HL.out];omega))) (by decide)
   go_wp2
   go_ret3
   exact ⟨Yx K.out,rfl⟩
def zU (bs:List UInt8) (most:Int):Int × Nat × Nat :=
 if (zL bs).2.2≠0 then (0,0,(zL bs).2.2) else if (zL bs).1<0 then (0,0,4) else if max most 0<(zL bs).1 then (0,0,5) else zL bs
def getT (bs:List UInt8) (most:Int):List UInt8 × Nat × Nat :=
 if (zU bs most).2.2≠0 then ([],0,(zU bs most).2.2) else if ((bs.length:Int)-(zU bs most).2.1)<(zU bs most).1 then ([],0,3)
 else ((bs.drop (zU bs most).2.1).take (zU bs most).1.toNat,(zU bs most).2.1+(zU bs most).1.toNat,0)
theorem uW {a b:List UInt8 × Nat × Nat} (h:a=b):(Ending.returned (.tuple #[.string ⟨b.1.toArray⟩,.int .i64 b.2.1,.int .i64 b.2.2]):Ending)=Ending.returned (.tuple #[.string ⟨a.1.toArray⟩,.int .i64 a.2.1,.int .i64 a.2.2]):=by rw [h]
theorem XG (base:Option Addr) (bs:List UInt8) (cap:Nat) (most:Int) (w:World) (hr:ZI w base bs) (hl:bs.length≤maxLen) :
  Calls Tryz.prog 82 #[.slice base bs.length cap,.int .i64 most] w fun e w'=>e=.returned (.tuple #[.int .i64 (zU bs most).1,.int .i64 (zU bs most).2.1,.int .i64 (zU bs most).2.2])∧w=w':=by
 have o:Hid (zU bs most=if (zL bs).2.2≠0 then (0,0,(zL bs).2.2) else if (zL bs).1<0 then (0,0,4) else if max most 0<(zL bs).1 then (0,0,5) else zL bs):=rfl
 have z:Hid (∀w,ZI w base bs→Calls Tryz.prog 50 #[.slice base bs.length cap] w fun e w'=>e=.returned (.tuple #[.int .i64 (zL bs).1,.int .i64 (zL bs).2.1,.int .i64 (zL bs).2.2])∧w=w'):=fun w hr=>xj base bs cap w hr hl
 generalize hlen:bs.length=len at *;clear hlen;obtain ⟨q,D⟩:∃q,q=zL bs:=⟨_,rfl⟩;rw [←D] at o z;clear D;obtain ⟨n,E,A⟩:=q
 by_cases h0:A≠0
 ·have y:Hid (zU bs most=(0,0,A)):=by have h:=o.out;rw [if_pos h0] at h;exact h
  have H:((A:Int) != 0)=true:=by rw [bne_iff_ne];omega
  clear o h0
  go_enter Tryz.func82,Tryz.ntmps82
  go_wp2_with (go_at_call 50;refine (z.out _ hr).mono ?_;rintro e w' ⟨rfl,rfl⟩)
  go_ret3
  exact ⟨Yx y.out,rfl⟩
 ·have G:A=0:=by omega
  subst G
  by_cases h1:n<0
  ·have y:Hid (zU bs most=(0,0,4)):=by have h:=o.out;rw [if_neg h0,if_pos h1] at h;exact h
   clear o h0
   go_enter Tryz.func82,Tryz.ntmps82
   go_wp2_with (go_at_call 50;refine (z.out _ hr).mono ?_;rintro e w' ⟨rfl,rfl⟩)
   go_ret3
   exact ⟨Yx y.out,rfl⟩
  ·by_cases h2:max most 0<n
   ·have y:Hid (zU bs most=(0,0,5)):=by have h:=o.out;rw [if_neg h0,if_neg h1,if_pos h2] at h;exact h
    clear o h0
    go_enter Tryz.func82,Tryz.ntmps82
    go_wp2_with (go_at_call 50;refine (z.out _ hr).mono ?_;rintro e w' ⟨rfl,rfl⟩)
    go_ret3
    exact ⟨Yx y.out,rfl⟩
   ·have y:Hid (zU bs most=(n,E,0)):=by have h:=o.out;rw [if_neg h0,if_neg h1,if_neg h2] at h;exact h
    clear o h0
    go_enter Tryz.func82,Tryz.ntmps82
    go_wp2_with (go_at_call 50;refine (z.out _ hr).mono ?_;rintro e w' ⟨rfl,rfl⟩)
    go_ret3
    exact ⟨Yx y.out,rfl⟩
theorem X8:∀(l:List UInt8) (i acc:Nat),(Zx i acc l).2.1≤i+l.length
 | [],i,acc=>by simp [Zx]
 | x::r,i,acc=>by
  unfold Zx
  split
  ·simp
  ·split
   ·simp
   ·have h:=X8 r (i+1) (acc+x.toNat % 128*128 ^ i)
    simp only [List.length_cons];omega
theorem xk (bs:List UInt8):(zL bs).2.1≤bs.length:=by
 unfold zL
 have h:=X8 bs 0 0
 split
 ·simpa using h
 ·simp
theorem xm (bs:List UInt8) (most:Int):(zU bs most).2.1≤bs.length:=by
 unfold zU
 have h:=xk bs
 split
 ·simp
 ·split
  ·simp
  ·split
   ·simp
   ·exact h
theorem yR (bs:List UInt8) (most:Int):0≤(zU bs most).1:=by
 unfold zU
 split
 ·simp
 ·split
  ·simp
  ·split
   ·simp
   ·omega
theorem yv (b o j:Nat):(⟨b,o,none⟩:Addr).add j=⟨b,o+j,none⟩:=by
 unfold Addr.add
 split
 ·simp_all
 ·simp
def subBase (base:Option Addr) (cap lo:Nat):Option Addr:=if cap=lo then base else base.map (fun a=>a.add lo)
theorem Xk {w:World} {base:Option Addr} {bs:List UInt8} {cap lo:Nat} (m:Nat) (hr:ZI w base bs) (hc:bs.length≤cap):ZI w (subBase base cap lo) ((bs.drop lo).take m):=by
 rcases hr with rfl | ⟨b,o,rfl,y⟩
 ·left;simp
 ·unfold subBase
  by_cases h:cap=lo
  ·left;rw [List.drop_eq_nil_of_le (by omega)];simp
  ·right
   rw [if_neg h];refine ⟨b,o+lo,by simp [yv],fun j hj=>?_⟩
   have z:j<(bs.drop lo).length:=by rw [List.length_take] at hj;omega
   have A:lo+j<bs.length:=by rw [List.length_drop] at z;omega
   rw [List.getElem_take,List.getElem_drop,Nat.add_assoc];exact y (lo+j) A
theorem yw (w:World) (base:Option Addr) (bs:List UInt8) (cap:Nat) (hr:ZI w base bs) :
  (convert 39 9 (.slice base bs.length cap)).run Tryz.prog w=.ok (.string ⟨bs.toArray⟩) w:=by
 rw [run_convert_bytes_string w 39 9 5 base bs.length cap Tryz.underlying39 Tryz.underlying5 Tryz.underlying9];cases base with
 | none =>
  rcases hr with rfl | ⟨b,o,h,_⟩
  ·simp [Conv.bytesToString];rfl
  ·cases h
 | some a =>
  have A:(loadCells a bs.length).run Tryz.prog w=.ok ((bs.map fun b=>(b.toNat:Int)).map (Value.int .u8)).toArray w:=by
   have h:=run_loadCells_list (P:=Tryz.prog) w a (Lib.byteCells bs) (fun j v hj=>by
    rcases hr with rfl | ⟨b,o,h,y⟩
    ·simp [Lib.byteCells] at hj
    ·cases h
     have z:j<bs.length:=by
      rcases Nat.lt_or_ge j bs.length with h | h
      ·exact h
      ·rw [List.getElem?_eq_none (by rw [Lib.byteCells_length];exact h)] at hj;cases hj
     rw [yv,y j z]
     unfold Lib.byteCells at hj
     rw [List.getElem?_map,List.getElem?_eq_getElem z] at hj
     exact hj)
   rw [Lib.byteCells_length] at h;rw [h]
   simp [Lib.byteCells]
  rw [run_bytesToString w a bs.length cap _ A,foldl_push_byteCells]
  simp [ByteArray.empty,ByteArray.emptyWithCapacity]
  rfl
theorem UN (w:World) (base:Option Addr) (len cap lo n:Nat) (h:lo+n≤cap) :
  (Instr.slice 39 (.slice base len cap) (some (.int .i64 lo)) (some (.int .i64 (lo+n:Int))) none).run Tryz.prog w=.ok (.slice (subBase base cap lo) n (cap-lo)) w:=by
 have y:=run_slice_lh (P:=Tryz.prog) w 39 base len cap Tryz.underlying39 .i64 .i64 (lo:Int) (lo+n:Int) (by omega) (by omega) (by omega)
 have o:(sizeOf (Tryz.prog.elem 39)).run Tryz.prog w=.ok 1 w:=by kernel_rfl
 rw [y,o];have e:((lo:Int)+(n:Int)).toNat=lo+n:=by omega
 simp [sliced,subBase,e]
theorem X9 (base:Option Addr) (bs:List UInt8) (cap:Nat) (most:Int) (w:World) (hr:ZI w base bs) (hl:bs.length≤cap) (hm:cap≤maxLen) :
  Calls Tryz.prog 63 #[.slice base bs.length cap,.int .i64 most] w fun e w'=>e=.returned (.tuple #[.string ⟨(getT bs most).1.toArray⟩,.int .i64 (getT bs most).2.1,.int .i64 (getT bs most).2.2])∧w=w':=by
 have I:=hm
 unfold maxLen at I
 have G:Hid (∀w,ZI w base bs→Calls Tryz.prog 82 #[.slice base bs.length cap,.int .i64 most] w fun e w'=>e=.returned (.tuple #[.int .i64 (zU bs most).1,.int .i64 (zU bs most).2.1,.int .i64 (zU bs most).2.2])∧w=w'):=fun w hr=>XG base bs cap most w hr (Nat.le_trans hl hm)
 have y:Hid (getT bs most=if (zU bs most).2.2≠0 then ([],0,(zU bs most).2.2) else if ((bs.length:Int)-(zU bs most).2.1)<(zU bs most).1 then ([],0,3)
  else ((bs.drop (zU bs most).2.1).take (zU bs most).1.toNat,(zU bs most).2.1+(zU bs most).1.toNat,0)):=rfl
 have J:=xm bs most;have A:=yR bs most;obtain ⟨q,K⟩:∃q,q=zU bs most:=⟨_,rfl⟩;rw [←K] at y G J A;clear K;obtain ⟨R,o,E⟩:=q;obtain ⟨n,rfl⟩:=Int.eq_ofNat_of_zero_le A;simp only [Int.toNat_natCast] at y
 by_cases h0:E≠0
 ·have z:Hid (getT bs most=([],0,E)):=by have h:=y.out;rw [if_pos h0] at h;exact h
  have Q:((E:Int) != 0)=true:=by rw [bne_iff_ne];omega
  clear y h0
  go_enter Tryz.func63,Tryz.ntmps63
  go_wp2_with (go_at_call 82;refine (G.out _ hr).mono ?_;rintro e w' ⟨rfl,rfl⟩)
  go_ret3
  exact ⟨uW z.out,rfl⟩
 ·have M:E=0:=by omega
  subst M
  by_cases h1:((bs.length:Int)-(o:Int))<(n:Int)
  ·have z:Hid (getT bs most=([],0,3)):=by have h:=y.out;rw [if_neg h0,if_pos h1] at h;exact h
   clear y h0
   go_enter Tryz.func63,Tryz.ntmps63
   go_wp2_with (go_at_call 82;refine (G.out _ hr).mono ?_;rintro e w' ⟨rfl,rfl⟩)
   go_ret3
   exact ⟨uW z.out,rfl⟩
  ·have z:Hid (getT bs most=((bs.drop o).take n,o+n,0)):=by have h:=y.out;rw [if_neg h0,if_neg h1] at h;exact h
   have L:o+n≤bs.length:=by omega
   have O:=fun wx=>UN wx base bs.length cap o n (by omega)
   have D:((bs.drop o).take n).length=n:=by rw [List.length_take,List.length_drop];omega
   have H:=yw w (subBase base cap o) ((bs.drop o).take n) (cap-o) (Xk n hr hl);rw [D] at H;clear y h0 D;generalize subBase base cap o=base2 at *;generalize (bs.drop o).take n=ts at *
   go_enter Tryz.func63,Tryz.ntmps63
   go_wp2_with (go_at_call 82;refine (G.out _ hr).mono ?_;rintro e w' ⟨rfl,rfl⟩)
   go_ret3
   exact ⟨uW z.out,rfl⟩
structure zh (w:World) (p:Nat) (base:Option Addr) (cap:Nat) (bs:List UInt8) (at0 er:Nat):Prop where
 made:w.cell? ⟨p,0,none⟩=some (.bool true)
 b:w.cell? ⟨p,1,none⟩=some (.slice base bs.length cap)
 at_:w.cell? ⟨p,2,none⟩=some (.int .i64 at0)
 err:w.cell? ⟨p,3,none⟩=some (.int .i64 er)
 f2:w.frozen? ⟨p,2,none⟩=false
 f3:w.frozen? ⟨p,3,none⟩=false
 row:ZI w base bs
 len:bs.length≤cap
 cap:cap≤maxLen
 at_le:at0≤bs.length
 apart:∀a,base=some a→a.block≠p
 er9:er≤9
theorem yk {w:World} {p:Nat} {base:Option Addr} {cap:Nat} {bs:List UInt8} {at0 er:Nat} (h:zh w p base cap bs at0 er) :
  Calls Tryz.prog 22 #[.pointer (some ⟨p,0,none⟩)] w fun e w'=>e=.returned (.int .i64 er)∧w=w':=by
 have y:=h.made;have o:=h.err;clear h
 go_enter Tryz.func22,Tryz.ntmps22
 go_wp2
 go_ret
 exact ⟨rfl,rfl⟩
theorem vd (w:World) (base:Option Addr) (len cap lo:Nat) (h:lo≤len) :
  (Instr.slice 39 (.slice base len cap) (some (.int .i64 lo)) none none).run Tryz.prog w=.ok (.slice (subBase base cap lo) (len-lo) (cap-lo)) w:=by
 have y:=run_slice_l (P:=Tryz.prog) w 39 base len cap Tryz.underlying39 .i64 (lo:Int) (by omega) (by omega)
 have o:(sizeOf (Tryz.prog.elem 39)).run Tryz.prog w=.ok 1 w:=by kernel_rfl
 rw [y,o]
 simp [sliced,subBase]
theorem yD {P:Program} {f:FuncId} {args:Array Value} {w:World} {n:Nat} {v:Value}
  (h:Calls P f args (w.drewN n) fun e w'=>e=.returned v∧w.drewN n=w'):Calls P f args (w.drewN n) fun e w''=>e=.returned v∧∃m,w''=w.drewN m :=
 h.mono fun _ _ ⟨he,hm⟩=>⟨he,n,hm.symm⟩
theorem YT {w:World} {base:Option Addr} {bs:List UInt8} (n:Nat) (h:ZI w base bs):ZI (w.drewN n) base bs:=h
theorem yE {w w':World} {base:Option Addr} {bs:List UInt8} (h:ZI w base bs) (hk:∀a,base=some a→a.block<w.heap.size→w'.heap[a.block]?=w.heap[a.block]?):ZI w' base bs:=by
 rcases h with h | ⟨b,o,z,A⟩
 ·exact .inl h
 ·refine .inr ⟨b,o,z,fun j hj=>?_⟩
  have y:=A j hj;rw [World.cell?_of_block (w:=w) (a:=⟨b,o+j,none⟩) (hk ⟨b,o,none⟩ z (show b<w.heap.size from World.block_lt_of_cell? w ⟨b,o+j,none⟩ y))]
  exact y
theorem zh.kept {w w':World} {p:Nat} {base:Option Addr} {cap:Nat} {bs:List UInt8} {at0 er:Nat} (h:zh w p base cap bs at0 er)
  (hk:∀k,k<w.heap.size→(k=p∨∃a,base=some a∧a.block=k)→w'.heap[k]?=w.heap[k]?):zh w' p base cap bs at0 er:=by
 have o:=hk p (World.block_lt_of_cell? w _ h.made) (.inl rfl)
 exact ⟨(World.cell?_of_block (w:=w) (a:=⟨p,0,none⟩) o).trans h.made,(World.cell?_of_block (w:=w) (a:=⟨p,1,none⟩) o).trans h.b,
  (World.cell?_of_block (w:=w) (a:=⟨p,2,none⟩) o).trans h.at_,(World.cell?_of_block (w:=w) (a:=⟨p,3,none⟩) o).trans h.err,
  (World.frozen?_of_block (w:=w) (a:=⟨p,2,none⟩) o).trans h.f2,(World.frozen?_of_block (w:=w) (a:=⟨p,3,none⟩) o).trans h.f3,
  yE h.row (fun a ha hl=>hk a.block hl (.inr ⟨a,ha,rfl⟩)),h.len,h.cap,h.at_le,h.apart,h.er9⟩
theorem zh.below {w w':World} {B p:Nat} {base:Option Addr} {cap:Nat} {bs:List UInt8} {at0 er:Nat} (h:zh w p base cap bs at0 er) (hb:Below B w w') (hB:w.heap.size≤B):zh w' p base cap bs at0 er :=
 h.kept fun k hk _=>hb.block k (by omega)
theorem zh.other {w w':World} {p q:Nat} {base:Option Addr} {cap:Nat} {bs:List UInt8} {at0 er:Nat} (h:zh w p base cap bs at0 er) (hg:w.grownBy w' (some q)) (hq:p≠q) (ha:∀a,base=some a→a.block≠q):zh w' p base cap bs at0 er :=
 h.kept fun k hk hor=>hg.block k hk (fun e=>by
  cases e
  rcases hor with o | ⟨a,o,y⟩
  ·exact hq o.symm
  ·exact ha a o y)
theorem yl {w:World} {p j n:Nat} {v:Value}:w.grownBy ((w.drewN n).setCell ⟨p,j,none⟩ v) (some p) :=
 ⟨rfl,rfl,rfl,by simp [World.setCell],fun k _ hk=>by
  rw [Below.heap_setCell _ _ _ _ (fun e=>hk (by rw [e]))];rfl⟩
theorem zh.setErr {w:World} {p:Nat} {base:Option Addr} {cap:Nat} {bs:List UInt8} {at0:Nat} (h:zh w p base cap bs at0 0) (n e:Nat) (he:e≤9):zh ((w.drewN n).setCell ⟨p,3,none⟩ (.int .i64 e)) p base cap bs at0 e:=by
 have o:∀j,j≠3→((w.drewN n).setCell ⟨p,3,none⟩ (.int .i64 e)).cell? ⟨p,j,none⟩=w.cell? ⟨p,j,none⟩:=fun j hj=>by
  rw [World.cell?_setCell_other (a:=⟨p,3,none⟩) (b:=⟨p,j,none⟩) (h:=by intro h;cases h;exact hj rfl)];rfl
 exact ⟨(o 0 (by decide)).trans h.made,(o 1 (by decide)).trans h.b,(o 2 (by decide)).trans h.at_,World.cell?_setCell_same (w.drewN n) ⟨p,3,none⟩ _ h.err,
  by rw [World.frozen?_setCell];exact h.f2,by rw [World.frozen?_setCell];exact h.f3,
  yE h.row (fun a ha _=>by rw [Below.heap_setCell _ _ _ _ (h.apart a ha)];rfl),h.len,h.cap,h.at_le,h.apart,he⟩
theorem zh.setAt {w:World} {p:Nat} {base:Option Addr} {cap:Nat} {bs:List UInt8} {at0:Nat} (h:zh w p base cap bs at0 0) (n k:Nat) (hk:k≤bs.length):zh ((w.drewN n).setCell ⟨p,2,none⟩ (.int .i64 k)) p base cap bs k 0:=by
 have o:∀j,j≠2→((w.drewN n).setCell ⟨p,2,none⟩ (.int .i64 k)).cell? ⟨p,j,none⟩=w.cell? ⟨p,j,none⟩:=fun j hj=>by
  rw [World.cell?_setCell_other (a:=⟨p,2,none⟩) (b:=⟨p,j,none⟩) (h:=by intro h;cases h;exact hj rfl)];rfl
 exact ⟨(o 0 (by decide)).trans h.made,(o 1 (by decide)).trans h.b,World.cell?_setCell_same (w.drewN n) ⟨p,2,none⟩ _ h.at_,(o 3 (by decide)).trans h.err,
  by rw [World.frozen?_setCell];exact h.f2,by rw [World.frozen?_setCell];exact h.f3,
  yE h.row (fun a ha _=>by rw [Below.heap_setCell _ _ _ _ (h.apart a ha)];rfl),h.len,h.cap,hk,h.apart,Nat.zero_le _⟩
def stepR {α:Type} (zero:α) (at0 er:Nat) (g:α × Nat × Nat):α × Nat × Nat :=
 if er≠0 then (zero,at0,er) else if g.2.2≠0 then (zero,at0,g.2.2) else (g.1,at0+g.2.1,0)
theorem yF (w:World) (r:Option Nat):w.grownBy w r:=⟨rfl,rfl,rfl,Nat.le_refl _,fun _ _ _=>rfl⟩
theorem ve {w:World} {p:Nat} {base:Option Addr} {cap:Nat} {bs:List UInt8} {at0 er:Nat} (h:zh w p base cap bs at0 er) (g:Int × Nat × Nat) (hg:g.2.1≤bs.length-at0) (hg9:g.2.2≤9)
  (hget:Hid (∀n,Calls Tryz.prog 50 #[.slice (subBase base cap at0) (bs.length-at0) (cap-at0)] (w.drewN n) fun e w'=>e=.returned (.tuple #[.int .i64 g.1,.int .i64 g.2.1,.int .i64 g.2.2])∧w.drewN n=w')) :
  Calls Tryz.prog 49 #[.pointer (some ⟨p,0,none⟩),.func (.func 50) #[] #[]] w fun e w' =>
   e=.returned (.int .i64 (stepR 0 at0 er g).1)∧zh w' p base cap bs (stepR 0 at0 er g).2.1 (stepR 0 at0 er g).2.2∧w.grownBy w' (some p):=by
 have y:Hid (zh w p base cap bs at0 er):=h;have J:=fun wx=>vd wx base bs.length cap at0 h.at_le
 have R:=h.b;have O:=h.at_;have K:=h.err;have L:=h.f2;have Q:=h.f3;have E:=h.at_le;have M:=h.len;have I:=h.cap
 unfold maxLen at I
 clear h;generalize subBase base cap at0=base2 at *;obtain ⟨v,A,o⟩:=g;simp only at hget hg hg9
 by_cases her:er≠0
 ·have z:Hid (stepR 0 at0 er (v,A,o)=(0,at0,er)):=if_pos her
  have D:((er:Int) != 0)=true:=by rw [bne_iff_ne];omega
  clear her
  go_enter Tryz.func49,Tryz.ntmps49
  go_wp2_with (go_at_call 22;refine (yk y.out).mono ?_;rintro e w' ⟨rfl,rfl⟩)
  go_ret
  rw [z.out];exact ⟨rfl,y.out,yF _ _⟩
 ·have G:er=0:=by omega
  subst G
  by_cases he0:o≠0
  ·have z:Hid (stepR 0 at0 0 (v,A,o)=(0,at0,o)):=(if_neg her).trans (if_pos he0)
   have D:((o:Int) != 0)=true:=by rw [bne_iff_ne];omega
   clear her he0
   go_enter Tryz.func49,Tryz.ntmps49
   go_wp2_with (go_at_call 22;refine (yk y.out).mono ?_;rintro e w' ⟨rfl,rfl⟩)
   go_quiet ((go_at_call 50;exact yD (hget.out _)))
   go_wp2
   go_ret
   rw [z.out];exact ⟨rfl,y.out.setErr _ _ hg9,yl⟩
  ·have H:o=0:=by omega
   subst H;have z:Hid (stepR 0 at0 0 (v,A,0)=(v,at0+A,0)):=(if_neg her).trans (if_neg he0);clear her he0
   go_enter Tryz.func49,Tryz.ntmps49
   go_wp2_with (go_at_call 22;refine (yk y.out).mono ?_;rintro e w' ⟨rfl,rfl⟩)
   go_quiet ((go_at_call 50;exact yD (hget.out _)))
   go_wp2
   go_ret
   rw [z.out];exact ⟨rfl,y.out.setAt _ _ (by omega),yl⟩
theorem yS {w:World} {base:Option Addr} {cap len:Nat} {bs:List UInt8} (h:zt w (.slice base len cap) bs):len=bs.length∧ZI w base bs∧bs.length≤cap∧cap≤maxLen:=by
 obtain ⟨E,G,K,J,L,I,H⟩:=h;cases K
 refine ⟨rfl,?_,L,I⟩
 by_cases h0:bs=[]
 ·exact .inl h0
 ·cases base with
  | none=>exact absurd (J rfl).1 h0
  | some a =>
   have z:0<bs.length:=by
    rcases Nat.eq_zero_or_pos bs.length with h | h
    ·exact absurd (List.length_eq_zero_iff.1 h) h0
    ·exact h
   have D:∀j (hj:j<bs.length),w.cell? (a.add j)=some (.int .u8 (bs[j].toNat:Int)):=fun j hj =>
    H a rfl j _ (by unfold Lib.byteCells;rw [List.getElem?_map,List.getElem?_eq_getElem hj];rfl)
   obtain ⟨b,o,A⟩:=a;have y:A=none:=by simpa [Addr.add] using World.cell?_spot (D 0 z)
   subst y;exact .inr ⟨b,o,rfl,fun j hj=>by rw [←yv];exact D j hj⟩
theorem XH {w:World} {p:Nat} {base:Option Addr} {cap:Nat} {bs:List UInt8} {at0 er:Nat} (h:zh w p base cap bs at0 er) (g:List UInt8 × Nat × Nat) (hg:g.2.1≤bs.length-at0) (hg9:g.2.2≤9) (mb:Nat)
  (hget:Hid (∀n,Calls Tryz.prog 62 #[.slice (subBase base cap at0) (bs.length-at0) (cap-at0),.pointer (some ⟨mb,0,none⟩)] (w.drewN n) fun e w'=>e=.returned (.tuple #[.string ⟨g.1.toArray⟩,.int .i64 g.2.1,.int .i64 g.2.2])∧w.drewN n=w')) :
  Calls Tryz.prog 61 #[.pointer (some ⟨p,0,none⟩),.func (.func 62) #[] #[.pointer (some ⟨mb,0,none⟩)]] w fun e w' =>
   e=.returned (.string ⟨(stepR [] at0 er g).1.toArray⟩)∧zh w' p base cap bs (stepR [] at0 er g).2.1 (stepR [] at0 er g).2.2∧w.grownBy w' (some p):=by
 have y:Hid (zh w p base cap bs at0 er):=h;have J:=fun wx=>vd wx base bs.length cap at0 h.at_le
 have R:=h.b;have O:=h.at_;have K:=h.err;have L:=h.f2;have Q:=h.f3;have E:=h.at_le;have M:=h.len;have I:=h.cap
 unfold maxLen at I
 clear h;generalize subBase base cap at0=base2 at *;obtain ⟨v,A,o⟩:=g;simp only at hget hg hg9
 by_cases her:er≠0
 ·have z:Hid (stepR [] at0 er (v,A,o)=([],at0,er)):=if_pos her
  have D:((er:Int) != 0)=true:=by rw [bne_iff_ne];omega
  clear her
  go_enter Tryz.func61,Tryz.ntmps61
  go_wp2_with (go_at_call 22;refine (yk y.out).mono ?_;rintro e w' ⟨rfl,rfl⟩)
  go_ret
  rw [z.out];exact ⟨rfl,y.out,yF _ _⟩
 ·have G:er=0:=by omega
  subst G
  by_cases he0:o≠0
  ·have z:Hid (stepR [] at0 0 (v,A,o)=([],at0,o)):=(if_neg her).trans (if_pos he0)
   have D:((o:Int) != 0)=true:=by rw [bne_iff_ne];omega
   clear her he0
   go_enter Tryz.func61,Tryz.ntmps61
   go_wp2_with (go_at_call 22;refine (yk y.out).mono ?_;rintro e w' ⟨rfl,rfl⟩)
   go_quiet ((go_at_call 62;exact yD (hget.out _)))
   go_wp2
   go_ret
   rw [z.out];exact ⟨rfl,y.out.setErr _ _ hg9,yl⟩
  ·have H:o=0:=by omega
   subst H;have z:Hid (stepR [] at0 0 (v,A,0)=(v,at0+A,0)):=(if_neg her).trans (if_neg he0);clear her he0
   go_enter Tryz.func61,Tryz.ntmps61
   go_wp2_with (go_at_call 22;refine (yk y.out).mono ?_;rintro e w' ⟨rfl,rfl⟩)
   go_quiet ((go_at_call 62;exact yD (hget.out _)))
   go_wp2
   go_ret
   rw [z.out];exact ⟨rfl,y.out.setAt _ _ (by omega),yl⟩
theorem xn {w:World} {base:Option Addr} {bs:List UInt8} {cap lo:Nat} (hr:ZI w base bs) (hc:bs.length≤cap):ZI w (subBase base cap lo) (bs.drop lo):=by
 have h:=Xk (lo:=lo) bs.length hr hc;rw [List.take_of_length_le (by rw [List.length_drop];omega)] at h
 exact h
theorem vf:∀(l:List UInt8) (i acc:Nat),(Zx i acc l).2.2≤9
 | [],i,acc=>by simp [Zx]
 | x::r,i,acc=>by
  unfold Zx
  split
  ·simp
  ·split
   ·simp
   ·exact vf r _ _
theorem Vc (bs:List UInt8):(zL bs).2.2≤9:=by
 unfold zL
 have h:=vf bs 0 0
 split
 ·simp
 ·exact h
theorem qb (bs:List UInt8) (m:Int):(zU bs m).2.2≤9:=by
 unfold zU
 have h:=Vc bs
 split
 ·exact h
 ·split
  ·simp
  ·split
   ·simp
   ·exact h
theorem qc (bs:List UInt8) (m:Int):(getT bs m).2.2≤9:=by
 unfold getT
 have h:=qb bs m
 split
 ·exact h
 ·split
  ·simp
  ·simp
theorem vg (bs:List UInt8) (m:Int):(getT bs m).2.1≤bs.length:=by
 unfold getT
 have h:=xm bs m;have o:=yR bs m
 split
 ·simp
 ·split
  ·simp
  ·simp only;omega
theorem VI {w:World} {p:Nat} {base:Option Addr} {cap:Nat} {bs:List UInt8} {at0 er:Nat} (h:zh w p base cap bs at0 er) :
  Calls Tryz.prog 23 #[.pointer (some ⟨p,0,none⟩)] w fun e w' =>
   e=.returned (.int .i64 (stepR 0 at0 er (zL (bs.drop at0))).1)∧zh w' p base cap bs (stepR 0 at0 er (zL (bs.drop at0))).2.1 (stepR 0 at0 er (zL (bs.drop at0))).2.2∧w.grownBy w' (some p):=by
 have A:(bs.drop at0).length=bs.length-at0:=List.length_drop
 have o:Hid (∀n,Calls Tryz.prog 50 #[.slice (subBase base cap at0) (bs.length-at0) (cap-at0)] (w.drewN n) fun e w'=>e=.returned (.tuple #[.int .i64 (zL (bs.drop at0)).1,.int .i64 (zL (bs.drop at0)).2.1,.int .i64 (zL (bs.drop at0)).2.2])∧w.drewN n=w'):=fun n=>by
  have D:=xj (subBase base cap at0) (bs.drop at0) (cap-at0) (w.drewN n) (YT n (xn h.row h.len)) (by rw [A];have:=h.len;have:=h.cap;omega)
  rw [A] at D;exact D
 have H:=ve h (zL (bs.drop at0)) (by rw [←A];exact xk _) (Vc _) o
 have G:Hid (Calls Tryz.prog 49 #[.pointer (some ⟨p,0,none⟩),.func (.func 50) #[] #[]] w fun e w' =>
   e=.returned (.int .i64 (stepR 0 at0 er (zL (bs.drop at0))).1)∧zh w' p base cap bs (stepR 0 at0 er (zL (bs.drop at0))).2.1 (stepR 0 at0 er (zL (bs.drop at0))).2.2∧w.grownBy w' (some p)):=H
 clear H o A h;generalize stepR 0 at0 er (zL (bs.drop at0))=q at *
 go_enter Tryz.func23,Tryz.ntmps23
 go_wp2_with fail
 refine G.out.mono ?_;rintro e E ⟨rfl,z,y⟩;have I:Hid (zh E p base cap bs q.2.1 q.2.2∧w.grownBy E (some p)):=⟨z,y⟩;clear z y;go_wp2
 go_ret
 exact ⟨rfl,I.out⟩
theorem V8 (base:Option Addr) (bs:List UInt8) (cap mb:Nat) (most:Int) (w:World) (hr:ZI w base bs) (hl:bs.length≤cap) (hcm:cap≤maxLen) (hm:w.cell? ⟨mb,0,none⟩=some (.int .i64 most)) :
  Calls Tryz.prog 62 #[.slice base bs.length cap,.pointer (some ⟨mb,0,none⟩)] w fun e w'=>e=.returned (.tuple #[.string ⟨(getT bs most).1.toArray⟩,.int .i64 (getT bs most).2.1,.int .i64 (getT bs most).2.2])∧w=w':=by
 have o:Hid (Calls Tryz.prog 63 #[.slice base bs.length cap,.int .i64 most] w fun e w'=>e=.returned (.tuple #[.string ⟨(getT bs most).1.toArray⟩,.int .i64 (getT bs most).2.1,.int .i64 (getT bs most).2.2])∧w=w'):=X9 base bs cap most w hr hl hcm
 clear hr hl hcm;generalize getT bs most=q at *
 go_enter Tryz.func62,Tryz.ntmps62
 go_wp2_with (go_at_call 63;refine (o.out).mono ?_;rintro e w' ⟨rfl,rfl⟩)
 go_ret3
 exact ⟨rfl,rfl⟩
theorem qd (fn:Fn) (first cap:Array Value) (w:World):(Instr.makeFunc fn first cap).run Tryz.prog w=.ok (.func fn first cap) w:=rfl
theorem vh {w w':World} {o:Obj} {p:Nat} (hg:(w.alloc o).grownBy w' (some p)):w.grownBy w' (some p) :=
 ⟨hg.os,hg.tape,hg.output,by have:=hg.size;simp at this;omega,fun k hk hne=>(hg.block k (by simp;omega) hne).trans (Below.heap_alloc _ _ _ hk)⟩
theorem uX {w:World} {p:Nat} {base:Option Addr} {cap:Nat} {bs:List UInt8} {at0 er:Nat} (most:Int) (h:zh w p base cap bs at0 er) :
  Calls Tryz.prog 42 #[.pointer (some ⟨p,0,none⟩),.int .i64 most] w fun e w' =>
   e=.returned (.string ⟨(stepR [] at0 er (getT (bs.drop at0) most)).1.toArray⟩)∧zh w' p base cap bs (stepR [] at0 er (getT (bs.drop at0) most)).2.1 (stepR [] at0 er (getT (bs.drop at0) most)).2.2∧w.grownBy w' (some p):=by
 have A:(bs.drop at0).length=bs.length-at0:=List.length_drop;have D:zh (w.alloc (.cells #[.int .i64 most] 3)) p base cap bs at0 er:=h.below ((Below.refl w.heap.size w).alloc (Nat.le_refl _) _) (Nat.le_refl _)
 have o:Hid (∀n,Calls Tryz.prog 62 #[.slice (subBase base cap at0) (bs.length-at0) (cap-at0),.pointer (some ⟨w.heap.size,0,none⟩)] ((w.alloc (.cells #[.int .i64 most] 3)).drewN n) fun e w'=>e=.returned (.tuple #[.string ⟨(getT (bs.drop at0) most).1.toArray⟩,.int .i64 (getT (bs.drop at0) most).2.1,.int .i64 (getT (bs.drop at0) most).2.2])∧(w.alloc (.cells #[.int .i64 most] 3)).drewN n=w'):=fun n=>by
  have G:=V8 (subBase base cap at0) (bs.drop at0) (cap-at0) w.heap.size most ((w.alloc (.cells #[.int .i64 most] 3)).drewN n) (YT n (xn D.row h.len)) (by rw [A];have:=h.len;omega) (by have:=h.cap;omega) (by simp)
  rw [A] at G;exact G
 have H:=XH D (getT (bs.drop at0) most) (by rw [←A];exact vg _ _) (qc _ _) w.heap.size o
 have J:=qd;clear o A h D;have E:=H;generalize stepR [] at0 er (getT (bs.drop at0) most)=q at *;clear H
 have L:Hid (Calls Tryz.prog 61 #[.pointer (some ⟨p,0,none⟩),.func (.func 62) #[] #[.pointer (some ⟨w.heap.size,0,none⟩)]] (w.alloc (.cells #[.int .i64 most] 3)) fun e w' =>
   e=.returned (.string ⟨q.1.toArray⟩)∧zh w' p base cap bs q.2.1 q.2.2∧(w.alloc (.cells #[.int .i64 most] 3)).grownBy w' (some p)):=E
 clear E
 go_enter Tryz.func42,Tryz.ntmps42
 go_wp2_with fail
 refine L.out.mono ?_;rintro e I ⟨rfl,z,y⟩;have K:Hid (zh I p base cap bs q.2.1 q.2.2∧w.grownBy I (some p)):=⟨z,vh y⟩;clear z y;go_wp2
 go_ret
 exact ⟨rfl,K.out⟩
theorem qe {w:World} {p:Nat} {base:Option Addr} {cap:Nat} {bs:List UInt8} {at0 er:Nat} (h:zh w p base cap bs at0 er) :
  Calls Tryz.prog 21 #[.pointer (some ⟨p,0,none⟩)] w fun e w'=>e=.returned (.int .i64 at0)∧w=w':=by
 have o:=h.at_;clear h
 go_enter Tryz.func21,Tryz.ntmps21
 go_wp2
 go_ret
 exact ⟨rfl,rfl⟩
theorem Yy {w:World} {B e n:Nat} {v:Value} {bs:List UInt8} (h:w.ownsRow B e 1 v n (Lib.byteCells bs)) :
  ∃base o,v=.slice base bs.length o∧ZI w base bs∧bs.length≤o∧o≤maxLen∧(∀a,base=some a→B≤a.block∧a.block<w.heap.size):=by
 have z:=h.1;rw [Lib.byteCells_length,Nat.mul_one] at z;have D:=h.lt;obtain ⟨O,K⟩:=h;rcases K with ⟨rfl,rfl⟩ | ⟨g,o,y,rfl,M,H,A,E,I,L⟩
 ·obtain rfl:bs=[]:=List.length_eq_zero_iff.1 z
  exact ⟨none,0,rfl,.inl rfl,Nat.le_refl _,Nat.zero_le _,fun a ha=>by cases ha⟩
 ·refine ⟨some ⟨g,0,none⟩,o,by rw [z],?_,by omega,E,fun a ha=>by cases ha;exact D g rfl⟩
  have J:w.ownsRow B e 1 (.slice (some ⟨g,0,none⟩) n o) n (Lib.byteCells bs):=⟨O,.inr ⟨g,o,y,rfl,M,H,A,E,I,L⟩⟩;refine .inr ⟨g,0,rfl,fun j hj=>?_⟩
  have G:=J.cells rfl j (.int .u8 (bs[j].toNat:Int)) (by unfold Lib.byteCells;rw [List.getElem?_map,List.getElem?_eq_getElem hj];rfl)
  rw [yv] at G;exact G
theorem xX (v:Value) (bs:List UInt8) (w:World) (hv:zt w v bs) (hb:bs.length≤140737488355328) :
  Calls Tryz.prog 16 #[v] w fun e w'=>∃p base D,e=.returned (.pointer (some ⟨p,0,none⟩))∧zh w' p base D bs 0 0∧w.heap.size≤p∧p<w'.heap.size∧(∀a,base=some a→w.heap.size≤a.block∧a.block<w'.heap.size)∧Below w.heap.size w w':=by
 have Q:Hid (zt w v bs):=hv;obtain ⟨K,M,rfl,H⟩:=hv;clear H
 go_enter Tryz.func16,Tryz.ntmps16
 go_wp2_with fail
 refine (V5 _ bs _ Q.out hb).mono ?_;rintro e J ⟨R,rfl,G,E⟩;obtain ⟨base,D,rfl,z,A,y,o⟩:=Yy G;have I:=E.size;have O:Hid (ZI J base bs∧bs.length≤D∧D≤maxLen∧(∀a,base=some a→w.heap.size≤a.block∧a.block<J.heap.size)∧Below w.heap.size w J):=⟨z,A,y,o,E⟩;clear z A y o E G;go_wp2
 go_ret
 obtain ⟨z,A,y,o,E⟩:=O.out;refine ⟨J.heap.size,base,D,rfl,⟨by simp,by simp,by simp,by simp,by simp,by simp,?_,A,y,Nat.zero_le _,?_,Nat.zero_le _⟩,I,by simp,?_,E.alloc I _⟩
 ·exact yE z (fun a _ hl=>Below.heap_alloc _ _ _ hl)
 ·intro a L;have:=(o a L).2;omega
 ·intro a L;have:=o a L;simp;omega
theorem YU {w:World} {bs:List UInt8} {g n:Nat} (hn:n=bs.length) (hm:n≤maxLen) (hc:∀j u,(Lib.byteCells bs)[j]?=some u→w.cell? ⟨g,j,none⟩=some u):zt w (.slice (some ⟨g,0,none⟩) n n) bs:=by
 subst hn;refine ⟨some ⟨g,0,none⟩,bs.length,rfl,(fun h=>by cases h),Nat.le_refl _,hm,fun a ha j u hj=>?_⟩
 cases ha
 rw [yv,Nat.zero_add];exact hc j u hj
theorem Yz {ops:Array Oper} {rest:List Oper} {o:Oper} {a:Act} {w:World} {Q:Exit→Act→World→Prop} (hgd:o.guard=none) (s x:Operand)
  (ho:o.op=.call { callee:=.builtin .append,args:=#[s,x],argTypes:=#[39,39] })
  (B:Nat) (v:Value) (us:List UInt8) (hs:a.eval s=v) (hown:w.ownsRow B 5 1 v us.length (Lib.byteCells us)) (xv:Value) (bs:List UInt8) (hx:a.eval x=xv) (hv:zt w xv bs)
  (hb:us.length+bs.length≤140737488355328) (hB:B≤w.heap.size)
  (h:∀y w',w'.ownsRow B 5 1 y (us++bs).length (Lib.byteCells (us++bs))→w.grownBy w' v.ownBlock→wpList Tryz.prog ops Q rest (a.put o.dst y) w'):wpList Tryz.prog ops Q (o::rest) a w:=by
 obtain ⟨i0,I,D,E,z⟩:=info_parts Yc;obtain ⟨base,G,rfl,K,M,L,J⟩:=hv;cases base with
 | none =>
  obtain ⟨rfl,rfl⟩:=K rfl;refine wpList_append_own_none hgd s x 39 ho B 5 i0 1 Tryz.underlying39 I v us.length _ hs hown hx ?_;refine h v w ?_ (yF _ _);rw [List.append_nil];exact hown
 | some ad =>
  refine wpList_append_own _ hgd s x 39 ho B 5 i0 (.int .u8 0) 1 1 Tryz.underlying39 I D E z rfl (by decide) v us.length _ hs hown ad bs.length G (Lib.byteCells bs) hx (by rw [Lib.byteCells_length,Nat.mul_one]) (J ad rfl) (YF bs) (by unfold maxLen;omega) (by omega) hB ?_
  intro y w' A H _;refine h y w' ?_ H;rw [List.length_append,Lib.byteCells_append];exact A
theorem vj {w:World} {g r:Nat} (hr:r<256) (hc:w.cell? ⟨g,0,none⟩=some (.int .u8 (r:Int))):zt w (.slice (some ⟨g,0,none⟩) 1 1) [r.toUInt8] :=
 YU rfl (by unfold maxLen;decide) (fun j u hj=>by
  match j,hj with
  | 0,hj=>simp [Lib.byteCells,Lib.toUInt8_toNat hr] at hj;subst hj;exact hc)
def U5 (n:Nat) (w:World):Type:={ wx:World // Below n w wx }
instance clsOne (n:Nat) (w:World):Nonempty (U5 n w):=⟨⟨w,Below.refl _ _⟩⟩
theorem xY {P:Program} {id:Nat} {Q:Exit→Act→World→Prop} {a:Act} {w w0:World} {l:List Oper} {n:Nat} (hw:Below n w0 w) (hm:P.follows .mixedOrders=true) (hB:Region.lexB .any l.toArray=true)
  (h:wpQuiet P l.toArray (fun w'=>∃c:U5 n w0,w'=c.1) (fun a'=>∀w',(∃c:U5 n w0,w'=c.1)→Q .normal a' w') l a):(Code.region id l.toArray true).wp P Q a w :=
 wp_region_quiet (C:=fun w'=>∃c:U5 n w0,w'=c.1) hm hB ⟨⟨w.drew,hw.drew⟩,rfl⟩ (by simpa using h)
theorem YG {P:Program} {f:FuncId} {args:Array Value} {v:Value} {n:Nat} {w:World} (h:∀wx,Below n w wx→Calls P f args wx fun e w''=>e=.returned v∧Below n w w'') (c:U5 n w) :
  Calls P f args c.1 fun e w''=>e=.returned v∧∃c':U5 n w,w''=c'.1 :=
 (h c.1 c.2).mono fun _ w'' ⟨he,hb⟩=>⟨he,⟨w'',hb⟩,rfl⟩
theorem zF {n:Nat} {w:World} {p:Addr} {v:Value} (h:w.cell? p=some v) (hp:p.block<n) (c:U5 n w):c.1.cell? p=some v:=by
 rw [c.2.cell hp];exact h
end Go.Proofs.YtmbofhpmockmbaaGreatDoor

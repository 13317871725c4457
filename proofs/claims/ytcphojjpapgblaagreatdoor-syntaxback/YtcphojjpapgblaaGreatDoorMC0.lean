import Derived.Test.YtcphojjpapgblaaGreatDoorProg
import Derived.WalkKit
import Derived.WalkSpells
import Derived.Lib.Walk
import Derived.Lib.Zigzag
import Derived.Lib.VarintMem
import Derived.Lib.VarintDec
import Derived.OwnWalk
import Derived.Lib.UnsafeStr
import Derived.Laws.AppendOwnNone
import Derived.Lib.SliceRun
import Derived.Lib.AppendZerosOnto
import Derived.Lib.ConvBytes
import Derived.Lib.EndianBits
import Derived.Lib.MinMax
import Derived.Laws.IdiomStrings
import Derived.Deep.QuietTactic
import Derived.BigQuiet
import Derived.Lib.Strings
import Derived.Laws.DeepStrings4
import Derived.Test.YtcphojjpapgblaaGreatDoorShelf
namespace Go.Proofs.YtcphojjpapgblaaGreatDoor
open Go.RowKit
set_option maxHeartbeats 16000000
set_option maxRecDepth 100000
theorem zc6:(Tryz.prog.info? 5).map (fun i=>(i.zero,i.size,i.bytes))=some (some (.int .u8 0),1,1):=by kernel_rfl
def Ub (w:World) (v:Value) (bs:List UInt8):Prop :=
 ∃base cap,v=.slice base bs.length cap∧(base=none→bs=[]∧cap=0)∧bs.length≤cap∧cap≤maxLen ∧
  ∀a,base=some a→∀j u,(Lib.byteCells bs)[j]?=some u→w.cell? (a.add j)=some u
theorem zdF (l:List UInt8):∀v∈Lib.byteCells l,v.oneCell'=true:=by
 intro v h;simp only [Lib.byteCells,List.mem_map] at h;obtain ⟨b,_,rfl⟩:=h
 rfl
theorem bytesWorld_below (w:World) (e:TypeId) (s:ByteArray):Below w.heap.size w (Lib.bytesWorld w e s):=by
 refine ⟨rfl,rfl,rfl,by rw [Lib.bytesWorld_size];omega,fun k hk=>Lib.bytesWorld_at_old w e s k hk⟩
def zaz (w:World) (base:Option Addr) (bs:List UInt8):Prop :=
 bs=[]∨∃b o,base=some ⟨b,o,none⟩∧∀j (h:j<bs.length),w.cell? ⟨b,o+j,none⟩=some (.int .u8 (bs[j].toNat:Int))
theorem V2 (b o j:Nat):(⟨b,o,none⟩:Addr).add j=⟨b,o+j,none⟩:=by
 unfold Addr.add
 split
 ·simp_all
 ·simp
theorem zaA (w:World) (base:Option Addr) (bs:List UInt8) (cap:Nat) (hr:zaz w base bs) :
  (convert 119 9 (.slice base bs.length cap)).run Tryz.prog w=.ok (.string ⟨bs.toArray⟩) w:=by
 rw [run_convert_bytes_string w 119 9 5 base bs.length cap Tryz.underlying119 Tryz.underlying5 Tryz.underlying9];cases base with
 | none =>
  rcases hr with rfl | ⟨b,o,h,_⟩
  ·simp [Conv.bytesToString];rfl
  ·cases h
 | some a =>
  have A:(loadCells a bs.length).run Tryz.prog w=.ok ((bs.map fun b=>(b.toNat:Int)).map (Value.int .u8)).toArray w:=by
   have h:=run_loadCells_list (P:=Tryz.prog) w a (Lib.byteCells bs) (fun j v hj=>by
    rcases hr with rfl | ⟨b,o,h,y⟩
    ·simp [Lib.byteCells] at hj
    ·cases h
     have z:j<bs.length:=by
      rcases Nat.lt_or_ge j bs.length with h | h
      ·exact h
      ·rw [List.getElem?_eq_none (by rw [Lib.byteCells_length];exact h)] at hj;cases hj
     rw [V2,y j z]
     unfold Lib.byteCells at hj
     rw [List.getElem?_map,List.getElem?_eq_getElem z] at hj
     exact hj)
   rw [Lib.byteCells_length] at h;rw [h]
   simp [Lib.byteCells]
  rw [run_bytesToString w a bs.length cap _ A,foldl_push_byteCells]
  simp [ByteArray.empty,ByteArray.emptyWithCapacity]
  rfl
structure Yt (w:World) (p:Nat) (base:Option Addr) (cap:Nat) (bs:List UInt8) (at0 er:Nat):Prop where
 made:w.cell? ⟨p,0,none⟩=some (.bool true)
 b:w.cell? ⟨p,1,none⟩=some (.slice base bs.length cap)
 at_:w.cell? ⟨p,2,none⟩=some (.int .i64 at0)
 err:w.cell? ⟨p,3,none⟩=some (.int .i64 er)
 f2:w.frozen? ⟨p,2,none⟩=false
 f3:w.frozen? ⟨p,3,none⟩=false
 row:zaz w base bs
 len:bs.length≤cap
 cap:cap≤maxLen
 at_le:at0≤bs.length
 apart:∀a,base=some a→a.block≠p
 er9:er≤9
theorem zbU {w w':World} {base:Option Addr} {bs:List UInt8} (h:zaz w base bs) (hk:∀a,base=some a→a.block<w.heap.size→w'.heap[a.block]?=w.heap[a.block]?):zaz w' base bs:=by
 rcases h with h | ⟨b,o,y,A⟩
 ·exact .inl h
 ·refine .inr ⟨b,o,y,fun j hj=>?_⟩
  have z:=A j hj;rw [World.cell?_of_block (w:=w) (a:=⟨b,o+j,none⟩) (hk ⟨b,o,none⟩ y (show b<w.heap.size from World.block_lt_of_cell? w ⟨b,o+j,none⟩ z))]
  exact z
theorem Yt.kept {w w':World} {p:Nat} {base:Option Addr} {cap:Nat} {bs:List UInt8} {at0 er:Nat} (h:Yt w p base cap bs at0 er)
  (hk:∀k,k<w.heap.size→(k=p∨∃a,base=some a∧a.block=k)→w'.heap[k]?=w.heap[k]?):Yt w' p base cap bs at0 er:=by
 have o:=hk p (World.block_lt_of_cell? w _ h.made) (.inl rfl)
 exact ⟨(World.cell?_of_block (w:=w) (a:=⟨p,0,none⟩) o).trans h.made,(World.cell?_of_block (w:=w) (a:=⟨p,1,none⟩) o).trans h.b,
  (World.cell?_of_block (w:=w) (a:=⟨p,2,none⟩) o).trans h.at_,(World.cell?_of_block (w:=w) (a:=⟨p,3,none⟩) o).trans h.err,
  (World.frozen?_of_block (w:=w) (a:=⟨p,2,none⟩) o).trans h.f2,(World.frozen?_of_block (w:=w) (a:=⟨p,3,none⟩) o).trans h.f3,
  zbU h.row (fun a ha hl=>hk a.block hl (.inr ⟨a,ha,rfl⟩)),h.len,h.cap,h.at_le,h.apart,h.er9⟩
theorem Yt.below {w w':World} {B p:Nat} {base:Option Addr} {cap:Nat} {bs:List UInt8} {at0 er:Nat} (h:Yt w p base cap bs at0 er) (hb:Below B w w') (hB:w.heap.size≤B):Yt w' p base cap bs at0 er :=
 h.kept fun k hk _=>hb.block k (by omega)
theorem Yt.other {w w':World} {p q:Nat} {base:Option Addr} {cap:Nat} {bs:List UInt8} {at0 er:Nat} (h:Yt w p base cap bs at0 er) (hg:w.grownBy w' (some q)) (hq:p≠q) (ha:∀a,base=some a→a.block≠q):Yt w' p base cap bs at0 er :=
 h.kept fun k hk hor=>hg.block k hk (fun e=>by
  cases e
  rcases hor with o | ⟨a,o,y⟩
  ·exact hq o.symm
  ·exact ha a o y)
theorem QL (w:World) (r:Option Nat):w.grownBy w r:=⟨rfl,rfl,rfl,Nat.le_refl _,fun _ _ _=>rfl⟩
theorem QM {w:World} {B e n:Nat} {v:Value} {bs:List UInt8} (h:w.ownsRow B e 1 v n (Lib.byteCells bs)) :
  ∃base o,v=.slice base bs.length o∧zaz w base bs∧bs.length≤o∧o≤maxLen∧(∀a,base=some a→B≤a.block∧a.block<w.heap.size):=by
 have A:=h.1;rw [Lib.byteCells_length,Nat.mul_one] at A;have y:=h.lt;obtain ⟨I,N⟩:=h;rcases N with ⟨rfl,rfl⟩ | ⟨g,o,D,rfl,L,Q,z,G,J,R⟩
 ·obtain rfl:bs=[]:=List.length_eq_zero_iff.1 A
  exact ⟨none,0,rfl,.inl rfl,Nat.le_refl _,Nat.zero_le _,fun a ha=>by cases ha⟩
 ·refine ⟨some ⟨g,0,none⟩,o,by rw [A],?_,by omega,G,fun a ha=>by cases ha;exact y g rfl⟩
  have O:w.ownsRow B e 1 (.slice (some ⟨g,0,none⟩) n o) n (Lib.byteCells bs):=⟨I,.inr ⟨g,o,D,rfl,L,Q,z,G,J,R⟩⟩;refine .inr ⟨g,0,rfl,fun j hj=>?_⟩
  have H:=O.cells rfl j (.int .u8 (bs[j].toNat:Int)) (by unfold Lib.byteCells;rw [List.getElem?_map,List.getElem?_eq_getElem hj];rfl)
  rw [V2] at H;exact H
theorem uG {w:World} {bs:List UInt8} {g n:Nat} (hn:n=bs.length) (hm:n≤maxLen) (hc:∀j u,(Lib.byteCells bs)[j]?=some u→w.cell? ⟨g,j,none⟩=some u):Ub w (.slice (some ⟨g,0,none⟩) n n) bs:=by
 subst hn;refine ⟨some ⟨g,0,none⟩,bs.length,rfl,(fun h=>by cases h),Nat.le_refl _,hm,fun a ha j u hj=>?_⟩
 cases ha
 rw [V2,Nat.zero_add];exact hc j u hj
theorem Y5 {ops:Array Oper} {rest:List Oper} {o:Oper} {a:Act} {w:World} {Q:Exit→Act→World→Prop} (hgd:o.guard=none) (s x:Operand)
  (ho:o.op=.call { callee:=.builtin .append,args:=#[s,x],argTypes:=#[119,119] })
  (B:Nat) (v:Value) (us:List UInt8) (hs:a.eval s=v) (hown:w.ownsRow B 5 1 v us.length (Lib.byteCells us)) (xv:Value) (bs:List UInt8) (hx:a.eval x=xv) (hv:Ub w xv bs)
  (hb:us.length+bs.length≤140737488355328) (hB:B≤w.heap.size)
  (h:∀y w',w'.ownsRow B 5 1 y (us++bs).length (Lib.byteCells (us++bs))→w.grownBy w' v.ownBlock→wpList Tryz.prog ops Q rest (a.put o.dst y) w'):wpList Tryz.prog ops Q (o::rest) a w:=by
 obtain ⟨J,L,A,I,z⟩:=info_parts zc6;obtain ⟨base,D,rfl,O,T,R,N⟩:=hv;cases base with
 | none =>
  obtain ⟨rfl,rfl⟩:=O rfl;refine wpList_append_own_none hgd s x 119 ho B 5 J 1 Tryz.underlying119 L v us.length _ hs hown hx ?_;refine h v w ?_ (QL _ _);rw [List.append_nil];exact hown
 | some ad =>
  refine wpList_append_own _ hgd s x 119 ho B 5 J (.int .u8 0) 1 1 Tryz.underlying119 L A I z rfl (by decide) v us.length _ hs hown ad bs.length D (Lib.byteCells bs) hx (by rw [Lib.byteCells_length,Nat.mul_one]) (N ad rfl) (zdF bs) (by unfold maxLen;omega) (by omega) hB ?_
  intro y w' H G _;refine h y w' ?_ G;rw [List.length_append,Lib.byteCells_append];exact H
theorem XP {w:World} {g r:Nat} (hr:r<256) (hc:w.cell? ⟨g,0,none⟩=some (.int .u8 (r:Int))):Ub w (.slice (some ⟨g,0,none⟩) 1 1) [r.toUInt8] :=
 uG rfl (by unfold maxLen;decide) (fun j u hj=>by
  match j,hj with
  | 0,hj=>simp [Lib.byteCells,Lib.toUInt8_toNat hr] at hj;subst hj;exact hc)
def Cls (n:Nat) (w:World):Type:={ wx:World // Below n w wx }
instance clsOne (n:Nat) (w:World):Nonempty (Cls n w):=⟨⟨w,Below.refl _ _⟩⟩
theorem xU {P:Program} {id:Nat} {Q:Exit→Act→World→Prop} {a:Act} {w w0:World} {l:List Oper} {n:Nat} (hw:Below n w0 w) (hm:P.follows .mixedOrders=true) (hB:Region.lexB .any l.toArray=true)
  (h:wpQuiet P l.toArray (fun w'=>∃c:Cls n w0,w'=c.1) (fun a'=>∀w',(∃c:Cls n w0,w'=c.1)→Q .normal a' w') l a):(Code.region id l.toArray true).wp P Q a w :=
 wp_region_quiet (C:=fun w'=>∃c:Cls n w0,w'=c.1) hm hB ⟨⟨w.drew,hw.drew⟩,rfl⟩ (by simpa using h)
theorem Xc {P:Program} {f:FuncId} {args:Array Value} {v:Value} {n:Nat} {w:World} (h:∀wx,Below n w wx→Calls P f args wx fun e w''=>e=.returned v∧Below n w w'') (c:Cls n w) :
  Calls P f args c.1 fun e w''=>e=.returned v∧∃c':Cls n w,w''=c'.1 :=
 (h c.1 c.2).mono fun _ w'' ⟨he,hb⟩=>⟨he,⟨w'',hb⟩,rfl⟩
theorem Zk {n:Nat} {w:World} {p:Addr} {v:Value} (h:w.cell? p=some v) (hp:p.block<n) (c:Cls n w):c.1.cell? p=some v:=by
 rw [c.2.cell hp];exact h
abbrev zb (l:List UInt8):ByteArray:=⟨l.toArray⟩
theorem Zd (l:List UInt8):(zb l).size=l.length:=rfl
theorem Xt (l:List UInt8) (a b:Nat):(zb l).extract a b=zb ((l.drop a).take (b-a)):=by
 have e:=Lib.extract_data (zb l) a b;have h:(zb l).data.toList=l:=rfl;rw [h] at e;show _=(⟨_⟩:ByteArray)
 rw [←e]
theorem Xd (w:World) (l:List UInt8) (a:Nat) (h:a≤l.length) :
  (Instr.slice 9 (.string (zb l)) (some (.int .i64 (a:Int))) none none).run Tryz.prog w=.ok (.string (zb (l.drop a))) w:=by
 rw [run_slice_string_from_if (P:=Tryz.prog) (w:=w) 9 (zb l) .i64 _ Tryz.underlying9,if_pos ⟨by omega,by rw [Zd];omega⟩]
 rw [Int.toNat_natCast,Xt,Zd,List.take_of_length_le (by rw [List.length_drop];omega)]
theorem QN (w:World) (l:List UInt8) (b:Nat) (h:b≤l.length) :
  (Instr.slice 9 (.string (zb l)) none (some (.int .i64 (b:Int))) none).run Tryz.prog w=.ok (.string (zb (l.take b))) w:=by
 rw [run_slice_string_to_if (P:=Tryz.prog) (w:=w) 9 (zb l) .i64 _ Tryz.underlying9,if_pos ⟨by omega,by rw [Zd];omega⟩]
 rw [Int.toNat_natCast,Xt,List.drop_zero,Nat.sub_zero]
theorem zc7 (w:World) (l:List UInt8) (a n:Nat) (h:a+n≤l.length) :
  (Instr.slice 9 (.string (zb l)) (some (.int .i64 (a:Int))) (some (.int .i64 ((a:Int)+(n:Int)))) none).run Tryz.prog w=.ok (.string (zb ((l.drop a).take n))) w:=by
 rw [run_slice_string_if (P:=Tryz.prog) (w:=w) 9 (zb l) .i64 .i64 _ _ Tryz.underlying9,if_pos ⟨by omega,by rw [Zd];omega⟩,if_pos ⟨by omega,by omega⟩]
 have o:((a:Int)+(n:Int)).toNat=a+n:=by omega
 rw [o,Int.toNat_natCast,Xt,show a+n-a=n by omega]
def Zw (n:Nat):Bool:=n==95||(decide (97≤n)&&decide (n≤122))||(decide (65≤n)&&decide (n≤90))
def Zx (n:Nat):Bool:=decide (48≤n)&&decide (n≤57)
def zV (n:Nat):Bool:=n==32||n==9||n==10
def yq (n:Nat):Bool:=n != 10
theorem zdG {a b:Bool} (h:a=b):Ending.returned (.bool a)=.returned (.bool b):=by rw [h]
theorem xo (n:Nat) (hn:n<256) (w:World) :
  Calls Tryz.prog 153 #[.int .u8 n] w fun e w'=>e=.returned (.bool (Zw n))∧w=w':=by
 go_enter Tryz.func153,Tryz.ntmps153
 go_wp2
 all_goals go_ret
 all_goals refine ⟨zdG ?_,rfl⟩
 all_goals (rw [Bool.eq_iff_iff];simp [Zw];try omega)
theorem XQ (n:Nat) (hn:n<256) (w:World) :
  Calls Tryz.prog 155 #[.int .u8 n] w fun e w'=>e=.returned (.bool (Zx n))∧w=w':=by
 go_enter Tryz.func155,Tryz.ntmps155
 go_wp2
 all_goals go_ret
 all_goals refine ⟨zdG ?_,rfl⟩
 all_goals (rw [Bool.eq_iff_iff];simp [Zx];try omega)
theorem zaB (n:Nat) (hn:n<256) (w:World) :
  Calls Tryz.prog 148 #[.int .u8 n] w fun e w'=>e=.returned (.bool (zV n))∧w=w':=by
 go_enter Tryz.func148,Tryz.ntmps148
 go_wp2
 all_goals go_ret
 all_goals refine ⟨zdG ?_,rfl⟩
 all_goals (rw [Bool.eq_iff_iff];simp [zV];try omega)
theorem zeU (n:Nat) (_:n<256) (w:World) :
  Calls Tryz.prog 149 #[.int .u8 n] w fun e w'=>e=.returned (.bool (yq n))∧w=w':=by
 go_enter Tryz.func149,Tryz.ntmps149
 go_wp2
 all_goals go_ret
 all_goals refine ⟨zdG ?_,rfl⟩
 all_goals (rw [Bool.eq_iff_iff];simp [yq];try omega)
def ym (n:Nat):Bool:=Zw n||Zx n
theorem zdH (n:Nat) (hn:n<256) (w:World) :
  Calls Tryz.prog 180 #[.int .u8 n] w fun e w'=>e=.returned (.bool (ym n))∧w=w':=by
 cases h1:Zw n with
 | true =>
  have c1:=xo n hn w;rw [h1] at c1
  go_enter Tryz.func180,Tryz.ntmps180
  go_wp2_with fail
  refine c1.mono ?_;rintro e h ⟨rfl,rfl⟩;go_wp2
  go_ret
  exact ⟨zdG (by simp [ym,h1]),rfl⟩
 | false =>
  have c1:=xo n hn w;rw [h1] at c1
  go_enter Tryz.func180,Tryz.ntmps180
  go_wp2_with fail
  refine c1.mono ?_;rintro e h ⟨rfl,rfl⟩;go_wp2_with fail
  refine (XQ n hn w).mono ?_;rintro e h ⟨rfl,rfl⟩;go_wp2
  go_ret
  exact ⟨zdG (by simp [ym,h1]),rfl⟩
theorem Y6 (p:UInt8→Bool):∀(l:List UInt8) (k:Nat),k≤l.length→(∀j (h:j<l.length),j<k→p l[j]=true)→(∀h:k<l.length,p l[k]=false)→(l.takeWhile p).length=k
 | [],k,hk,_,_=>by simp at hk;simp [hk]
 | x::l,0,_,_,h2=>by
  have:=h2 (by simp)
  simp at this
  simp [this]
 | x::l,k+1,hk,h1,h2=>by
  have o:p x=true:=h1 0 (by simp) (by omega)
  have:=Y6 p l k (by simpa using hk) (fun j h hj=>h1 (j+1) (by simpa using h) (by omega)) (fun h=>h2 (by simpa using h))
  simp [o,this]
theorem qU (l:List UInt8) (w:World) (hl:l.length≤9223372036854775000) :
  Calls Tryz.prog 147 #[.string (zb l),.func (.func 148) #[] #[]] w fun e w'=>e=.returned (.int .i64 (l.takeWhile fun c=>zV c.toNat).length)∧w=w':=by
 obtain ⟨p,y⟩:∃p:UInt8→Bool,p=fun c=>zV c.toNat:=⟨_,rfl⟩
 have I:Hid (∀(c:UInt8) (wx:World),Calls Tryz.prog 148 #[.int .u8 (c.toNat:Int)] wx fun e w'=>e=.returned (.bool (p c))∧wx=w'):=fun c wx=>by rw [y];exact zaB c.toNat (UInt8.toNat_lt c) wx
 rw [←y];clear y;have H:(zb l).size=l.length:=rfl
 go_enter Tryz.func147,Tryz.ntmps147
 go_wp2
 go_loop [5] (fun v=>∃i:Nat,i≤l.length∧v=.int .i64 i∧∀j (h:j<l.length),j<i→p l[j]=true) (fun v=>l.length-(intOf v).toNat)
 case atStart=>exact ⟨0,Nat.zero_le _,rfl,fun j h hj=>by omega⟩
 case round =>
  obtain ⟨i,G,rfl,o⟩:=hrel;have z:Hid (∀j (h:j<l.length),j<i→p l[j]=true):=o;clear o
  by_cases hlt:i<l.length
  ·have D:∀wx,(Instr.index 9 (.string (zb l)) (.int .i64 (i:Int))).run Tryz.prog wx=.ok (.int .u8 ((l[i]).toNat:Int)) wx:=fun wx=>by
    rw [run_index_string (P:=Tryz.prog) (w:=wx) 9 (zb l) .i64 _ Tryz.underlying9,dif_pos ⟨by omega,by rw [Zd];omega⟩]
    simp only [Int.toNat_natCast]
    rfl
   go_wp2_with fail
   refine (I.out l[i] w).mono ?_;rintro e J ⟨rfl,rfl⟩;cases hp:p l[i] with
   | true =>
    go_wp2
    refine ⟨⟨i+1,by omega,by go_num,fun j h hj=>?_⟩,by simp [intOf];omega⟩
    by_cases hji:j<i
    ·exact z.out j h hji
    ·obtain rfl:j=i:=by omega
     exact hp
   | false =>
    have A:Hid ((l.takeWhile p).length=i):=Y6 p l i G z.out (fun _=>hp)
    go_wp2
    go_ret
    rw [A.out];exact ⟨rfl,rfl⟩
  ·obtain rfl:i=l.length:=by omega
   have A:Hid ((l.takeWhile p).length=l.length):=Y6 p l l.length G z.out (fun h=>absurd h (by omega))
   go_wp2
   go_ret
   rw [A.out];exact ⟨rfl,rfl⟩
theorem zdI (l:List UInt8) (w:World) (hl:l.length≤9223372036854775000) :
  Calls Tryz.prog 147 #[.string (zb l),.func (.func 155) #[] #[]] w fun e w'=>e=.returned (.int .i64 (l.takeWhile fun c=>Zx c.toNat).length)∧w=w':=by
 obtain ⟨p,y⟩:∃p:UInt8→Bool,p=fun c=>Zx c.toNat:=⟨_,rfl⟩
 have I:Hid (∀(c:UInt8) (wx:World),Calls Tryz.prog 155 #[.int .u8 (c.toNat:Int)] wx fun e w'=>e=.returned (.bool (p c))∧wx=w'):=fun c wx=>by rw [y];exact XQ c.toNat (UInt8.toNat_lt c) wx
 rw [←y];clear y;have H:(zb l).size=l.length:=rfl
 go_enter Tryz.func147,Tryz.ntmps147
 go_wp2
 go_loop [5] (fun v=>∃i:Nat,i≤l.length∧v=.int .i64 i∧∀j (h:j<l.length),j<i→p l[j]=true) (fun v=>l.length-(intOf v).toNat)
 case atStart=>exact ⟨0,Nat.zero_le _,rfl,fun j h hj=>by omega⟩
 case round =>
  obtain ⟨i,G,rfl,o⟩:=hrel;have z:Hid (∀j (h:j<l.length),j<i→p l[j]=true):=o;clear o
  by_cases hlt:i<l.length
  ·have D:∀wx,(Instr.index 9 (.string (zb l)) (.int .i64 (i:Int))).run Tryz.prog wx=.ok (.int .u8 ((l[i]).toNat:Int)) wx:=fun wx=>by
    rw [run_index_string (P:=Tryz.prog) (w:=wx) 9 (zb l) .i64 _ Tryz.underlying9,dif_pos ⟨by omega,by rw [Zd];omega⟩]
    simp only [Int.toNat_natCast]
    rfl
   go_wp2_with fail
   refine (I.out l[i] w).mono ?_;rintro e J ⟨rfl,rfl⟩;cases hp:p l[i] with
   | true =>
    go_wp2
    refine ⟨⟨i+1,by omega,by go_num,fun j h hj=>?_⟩,by simp [intOf];omega⟩
    by_cases hji:j<i
    ·exact z.out j h hji
    ·obtain rfl:j=i:=by omega
     exact hp
   | false =>
    have A:Hid ((l.takeWhile p).length=i):=Y6 p l i G z.out (fun _=>hp)
    go_wp2
    go_ret
    rw [A.out];exact ⟨rfl,rfl⟩
  ·obtain rfl:i=l.length:=by omega
   have A:Hid ((l.takeWhile p).length=l.length):=Y6 p l l.length G z.out (fun h=>absurd h (by omega))
   go_wp2
   go_ret
   rw [A.out];exact ⟨rfl,rfl⟩
theorem zdJ (l:List UInt8) (w:World) (hl:l.length≤9223372036854775000) :
  Calls Tryz.prog 147 #[.string (zb l),.func (.func 149) #[] #[]] w fun e w'=>e=.returned (.int .i64 (l.takeWhile fun c=>yq c.toNat).length)∧w=w':=by
 obtain ⟨p,y⟩:∃p:UInt8→Bool,p=fun c=>yq c.toNat:=⟨_,rfl⟩
 have I:Hid (∀(c:UInt8) (wx:World),Calls Tryz.prog 149 #[.int .u8 (c.toNat:Int)] wx fun e w'=>e=.returned (.bool (p c))∧wx=w'):=fun c wx=>by rw [y];exact zeU c.toNat (UInt8.toNat_lt c) wx
 rw [←y];clear y;have H:(zb l).size=l.length:=rfl
 go_enter Tryz.func147,Tryz.ntmps147
 go_wp2
 go_loop [5] (fun v=>∃i:Nat,i≤l.length∧v=.int .i64 i∧∀j (h:j<l.length),j<i→p l[j]=true) (fun v=>l.length-(intOf v).toNat)
 case atStart=>exact ⟨0,Nat.zero_le _,rfl,fun j h hj=>by omega⟩
 case round =>
  obtain ⟨i,G,rfl,o⟩:=hrel;have z:Hid (∀j (h:j<l.length),j<i→p l[j]=true):=o;clear o
  by_cases hlt:i<l.length
  ·have D:∀wx,(Instr.index 9 (.string (zb l)) (.int .i64 (i:Int))).run Tryz.prog wx=.ok (.int .u8 ((l[i]).toNat:Int)) wx:=fun wx=>by
    rw [run_index_string (P:=Tryz.prog) (w:=wx) 9 (zb l) .i64 _ Tryz.underlying9,dif_pos ⟨by omega,by rw [Zd];omega⟩]
    simp only [Int.toNat_natCast]
    rfl
   go_wp2_with fail
   refine (I.out l[i] w).mono ?_;rintro e J ⟨rfl,rfl⟩;cases hp:p l[i] with
   | true =>
    go_wp2
    refine ⟨⟨i+1,by omega,by go_num,fun j h hj=>?_⟩,by simp [intOf];omega⟩
    by_cases hji:j<i
    ·exact z.out j h hji
    ·obtain rfl:j=i:=by omega
     exact hp
   | false =>
    have A:Hid ((l.takeWhile p).length=i):=Y6 p l i G z.out (fun _=>hp)
    go_wp2
    go_ret
    rw [A.out];exact ⟨rfl,rfl⟩
  ·obtain rfl:i=l.length:=by omega
   have A:Hid ((l.takeWhile p).length=l.length):=Y6 p l l.length G z.out (fun h=>absurd h (by omega))
   go_wp2
   go_ret
   rw [A.out];exact ⟨rfl,rfl⟩
theorem zeV (l:List UInt8) (w:World) (hl:l.length≤9223372036854775000) :
  Calls Tryz.prog 147 #[.string (zb l),.func (.func 180) #[] #[]] w fun e w'=>e=.returned (.int .i64 (l.takeWhile fun c=>ym c.toNat).length)∧w=w':=by
 obtain ⟨p,y⟩:∃p:UInt8→Bool,p=fun c=>ym c.toNat:=⟨_,rfl⟩
 have I:Hid (∀(c:UInt8) (wx:World),Calls Tryz.prog 180 #[.int .u8 (c.toNat:Int)] wx fun e w'=>e=.returned (.bool (p c))∧wx=w'):=fun c wx=>by rw [y];exact zdH c.toNat (UInt8.toNat_lt c) wx
 rw [←y];clear y;have H:(zb l).size=l.length:=rfl
 go_enter Tryz.func147,Tryz.ntmps147
 go_wp2
 go_loop [5] (fun v=>∃i:Nat,i≤l.length∧v=.int .i64 i∧∀j (h:j<l.length),j<i→p l[j]=true) (fun v=>l.length-(intOf v).toNat)
 case atStart=>exact ⟨0,Nat.zero_le _,rfl,fun j h hj=>by omega⟩
 case round =>
  obtain ⟨i,G,rfl,o⟩:=hrel;have z:Hid (∀j (h:j<l.length),j<i→p l[j]=true):=o;clear o
  by_cases hlt:i<l.length
  ·have D:∀wx,(Instr.index 9 (.string (zb l)) (.int .i64 (i:Int))).run Tryz.prog wx=.ok (.int .u8 ((l[i]).toNat:Int)) wx:=fun wx=>by
    rw [run_index_string (P:=Tryz.prog) (w:=wx) 9 (zb l) .i64 _ Tryz.underlying9,dif_pos ⟨by omega,by rw [Zd];omega⟩]
    simp only [Int.toNat_natCast]
    rfl
   go_wp2_with fail
   refine (I.out l[i] w).mono ?_;rintro e J ⟨rfl,rfl⟩;cases hp:p l[i] with
   | true =>
    go_wp2
    refine ⟨⟨i+1,by omega,by go_num,fun j h hj=>?_⟩,by simp [intOf];omega⟩
    by_cases hji:j<i
    ·exact z.out j h hji
    ·obtain rfl:j=i:=by omega
     exact hp
   | false =>
    have A:Hid ((l.takeWhile p).length=i):=Y6 p l i G z.out (fun _=>hp)
    go_wp2
    go_ret
    rw [A.out];exact ⟨rfl,rfl⟩
  ·obtain rfl:i=l.length:=by omega
   have A:Hid ((l.takeWhile p).length=l.length):=Y6 p l l.length G z.out (fun h=>absurd h (by omega))
   go_wp2
   go_ret
   rw [A.out];exact ⟨rfl,rfl⟩
def wordsL:List (List UInt8):=[[102,110],[114,101,99,111,114,100],[108,101,116],[105,102],[101,108,115,101],[119,104,105,108,101],[114,101,116,117,114,110],[110,101,119],[116,114,117,101],[102,97,108,115,101]]
def signsL:List (List UInt8):=[[40],[41],[123],[125],[91],[93],[44],[58],[59],[46],[61],[61,61],[33,61],[60],[60,61],[62],[62,61],[43],[45],[42],[47],[37],[33],[38,38],[124,124]]
structure yH (w:World):Prop where
 words:∀j (h:j<wordsL.length),w.cell? ⟨4,j,none⟩=some (.string (zb wordsL[j]))
 signs:∀j (h:j<signsL.length),w.cell? ⟨3,j,none⟩=some (.string (zb signsL[j]))
 escs:∀j (h:j<6),w.cell? ⟨5,j,none⟩=some (.int .u8 ([92,92,34,34,10,110][j]:Nat))
 range:∃te pe,w.cell? ⟨7,0,none⟩=some (.iface te pe)
def yh (l:List UInt8):Bool:=wordsL.contains l
theorem zdK (w:World) (i:Nat) (h:i<10):(Instr.index 225 (.agg #[.string (zb wordsL[0]),.string (zb wordsL[1]),.string (zb wordsL[2]),.string (zb wordsL[3]),.string (zb wordsL[4]),.string (zb wordsL[5]),.string (zb wordsL[6]),.string (zb wordsL[7]),.string (zb wordsL[8]),.string (zb wordsL[9])]) (.int .i64 (i:Int))).run Tryz.prog w=.ok (.string (zb (wordsL[i]'h))) w:=by
 have o:i=0∨i=1∨i=2∨i=3∨i=4∨i=5∨i=6∨i=7∨i=8∨i=9:=by omega
 rcases o with rfl | rfl | rfl | rfl | rfl | rfl | rfl | rfl | rfl | rfl
 all_goals rfl
theorem zdL (w:World) (i:Nat) (h:i<25):(Instr.index 215 (.agg #[.string (zb signsL[0]),.string (zb signsL[1]),.string (zb signsL[2]),.string (zb signsL[3]),.string (zb signsL[4]),.string (zb signsL[5]),.string (zb signsL[6]),.string (zb signsL[7]),.string (zb signsL[8]),.string (zb signsL[9]),.string (zb signsL[10]),.string (zb signsL[11]),.string (zb signsL[12]),.string (zb signsL[13]),.string (zb signsL[14]),.string (zb signsL[15]),.string (zb signsL[16]),.string (zb signsL[17]),.string (zb signsL[18]),.string (zb signsL[19]),.string (zb signsL[20]),.string (zb signsL[21]),.string (zb signsL[22]),.string (zb signsL[23]),.string (zb signsL[24])]) (.int .i64 (i:Int))).run Tryz.prog w=.ok (.string (zb (signsL[i]'h))) w:=by
 have o:i=0∨i=1∨i=2∨i=3∨i=4∨i=5∨i=6∨i=7∨i=8∨i=9∨i=10∨i=11∨i=12∨i=13∨i=14∨i=15∨i=16∨i=17∨i=18∨i=19∨i=20∨i=21∨i=22∨i=23∨i=24:=by omega
 rcases o with rfl | rfl | rfl | rfl | rfl | rfl | rfl | rfl | rfl | rfl | rfl | rfl | rfl | rfl | rfl | rfl | rfl | rfl | rfl | rfl | rfl | rfl | rfl | rfl | rfl
 all_goals rfl
theorem ziQ {a b:List UInt8}:(a==b)=decide (a=b):=by by_cases h:a=b <;> simp [h]
theorem zgw {l:List UInt8} {i:Nat} (h:i<wordsL.length) (he:wordsL[i]=l):yh l=true:=by
 unfold yh;rw [List.contains_iff_mem];rw [←he];exact List.getElem_mem h
theorem zeW {l:List UInt8} (h:∀j (h:j<wordsL.length),wordsL[j]≠l):yh l=false:=by
 unfold yh
 rw [Bool.eq_false_iff];intro o;rw [List.contains_iff_mem] at o;obtain ⟨j,z,y⟩:=List.getElem_of_mem o;exact h j z y
theorem zeX (l:List UInt8) (w:World) (ht:yH w) :
  Calls Tryz.prog 181 #[.string (zb l)] w fun e w'=>e=.returned (.bool (yh l))∧w=w':=by
 have N:=ht.words 0 (by decide)
 have I:=ht.words 1 (by decide)
 have U:=ht.words 2 (by decide)
 have T:=ht.words 3 (by decide)
 have Q:=ht.words 4 (by decide)
 have O:=ht.words 5 (by decide)
 have V:=ht.words 6 (by decide)
 have R:=ht.words 7 (by decide)
 have J:=ht.words 8 (by decide)
 have W:=ht.words 9 (by decide)
 clear ht
 go_enter Tryz.func181,Tryz.ntmps181
 go_wp2
 clear N I U T Q O V R J W
 go_loop [6] (fun v=>∃i:Nat,i≤10∧v=.int .i64 i∧∀j (h:j<wordsL.length),j<i→wordsL[j]≠l) (fun v=>10-(intOf v).toNat)
 case atStart=>exact ⟨0,Nat.zero_le _,rfl,fun j h hj=>by omega⟩
 case round =>
  obtain ⟨i,Y,rfl,o⟩:=hrel;have H:Hid (∀j (h:j<wordsL.length),j<i→wordsL[j]≠l):=o;clear o
  by_cases hlt:i<10
  ·have z:=fun wx=>zdK wx i hlt
   obtain ⟨x,D⟩:∃x,x=wordsL[i]'hlt:=⟨_,rfl⟩;rw [←D] at z;have G:Hid (x=wordsL[i]'hlt):=D;clear D
   by_cases y:x=l
   ·subst y
    have A:Hid (yh x=true):=zgw (i:=i) hlt G.out.symm;go_wp2
    go_ret
    rw [A.out];exact ⟨rfl,rfl⟩
   ·have L:Hid (x≠l):=y
    have X:(x==l)=false:=by rw [ziQ];exact decide_eq_false y
    clear y;go_wp2
    refine ⟨⟨i+1,by omega,by go_num,fun j h hj=>?_⟩,by simp [intOf];omega⟩
    by_cases hji:j<i
    ·exact H.out j h hji
    ·obtain rfl:j=i:=by omega
     intro y;exact L.out (G.out.trans y)
  ·obtain rfl:i=10:=by omega
   have A:Hid (yh l=false):=zeW (fun j h=>H.out j h h)
   go_wp2
   go_ret
   rw [A.out];exact ⟨rfl,rfl⟩
def Z3 (p:Nat→Bool) (l:List UInt8):Nat:=(l.takeWhile fun c=>p c.toNat).length
theorem xM (p:Nat→Bool) (l:List UInt8):Z3 p l≤l.length:=by
 unfold Z3
 exact (List.takeWhile_sublist _).length_le
def XR (l:List UInt8):Bool:=Lib.hasPrefix l [47,47]
theorem zdM {l:List UInt8} (h:XR l=true):∃t,l=47::47::t:=by
 unfold XR Lib.hasPrefix at h
 match l,h with
 | [],h=>simp at h
 | [a],h=>simp at h
 | a::b::t,h=>simp at h;exact ⟨t,by rw [←h.1,←h.2]⟩
theorem XS {l:List UInt8} (h:XR l=true):2≤Z3 yq l:=by
 obtain ⟨t,rfl⟩:=zdM h
 unfold Z3
 rw [List.takeWhile_cons_of_pos (by decide),List.takeWhile_cons_of_pos (by decide)]
 simp
def Z0 (l:List UInt8):Nat :=
 if _h:XR (l.drop (Z3 zV l))=true then
  Z3 zV l+(Z3 yq (l.drop (Z3 zV l))+Z0 ((l.drop (Z3 zV l)).drop (Z3 yq (l.drop (Z3 zV l)))))
 else Z3 zV l
termination_by l.length
decreasing_by
 have:=XS ‹_›
 have h3:=xM yq (l.drop (Z3 zV l));simp only [List.length_drop] at *;omega
def Uq (r:List UInt8):Nat:=if XR r=true then Z3 yq r+Z0 (r.drop (Z3 yq r)) else 0
theorem vy (l:List UInt8):Z0 l=Z3 zV l+Uq (l.drop (Z3 zV l)):=by
 rw [Z0]
 unfold Uq
 by_cases h:XR (l.drop (Z3 zV l))=true
 ·rw [dif_pos h,if_pos h]
 ·rw [dif_neg h,if_neg h];rfl
theorem QO:∀(n:Nat) (l:List UInt8),l.length≤n→Z0 l≤l.length
 | n,l,hn=>by
  rw [Z0];have z:=xM zV l
  by_cases h:XR (l.drop (Z3 zV l))=true
  ·rw [dif_pos h]
   have A:=XS h;have y:=xM yq (l.drop (Z3 zV l));rw [List.length_drop] at y;have o:=QO (n-1) ((l.drop (Z3 zV l)).drop (Z3 yq (l.drop (Z3 zV l)))) (by simp only [List.length_drop];omega)
   simp only [List.length_drop] at o;omega
  ·rw [dif_neg h];exact z
termination_by _ l=>l.length
decreasing_by
 have:=XS ‹_›
 have h3:=xM yq (l.drop (Z3 zV l));simp only [List.length_drop] at *;omega
theorem zgx (l:List UInt8) (w:World) (hl:l.length≤9223372036854775000) :
  Calls Tryz.prog 125 #[.string (zb l)] w fun e w'=>e=.returned (.int .i64 (Z0 l))∧w=w':=by
 obtain ⟨G,A⟩:∃G,G=Z0 l:=⟨_,rfl⟩;have W:G≤l.length:=by rw [A];exact QO _ l (Nat.le_refl _)
 have L:=xM zV l;have V:Hid (G=Z3 zV l+Uq (l.drop (Z3 zV l))):=show G=_ by rw [A];exact vy l
 have o:Hid (∀a,a≤l.length→∀wx,(Instr.slice 9 (.string (zb l)) (some (.int .i64 (a:Int))) none none).run Tryz.prog wx=.ok (.string (zb (l.drop a))) wx):=fun a h wx=>Xd wx l a h
 rw [←A];clear A
 go_enter Tryz.func125,Tryz.ntmps125
 go_wp2_with fail
 have N:=qU l w hl;rw [show (l.takeWhile fun c=>zV c.toNat).length=Z3 zV l from rfl] at N
 refine N.mono ?_;clear N;rintro e J ⟨rfl,rfl⟩;go_wp2_with fail
 go_loop [3] (fun v=>∃a:Nat,a≤l.length∧v=.int .i64 a∧G=a+Uq (l.drop a)) (fun v=>l.length-(intOf v).toNat)
 case atStart=>exact ⟨_,L,rfl,V.out⟩
 case round =>
  obtain ⟨a,T,rfl,z⟩:=hrel;have y:Hid (G=a+Uq (l.drop a)):=z;have aa:=o.out a T;clear z;have I:=Tryz.strings_HasPrefix (zb (l.drop a)) ⟨#[47,47]⟩ w;rw [show Lib.hasPrefix (zb (l.drop a)).data.toList (⟨#[47,47]⟩:ByteArray).data.toList=XR (l.drop a) from rfl] at I
  go_wp2_with fail
  refine I.mono ?_;clear I;rintro e J ⟨rfl,rfl⟩;cases hr:XR (l.drop a) with
  | false =>
   have O:G=a:=by rw [y.out];unfold Uq;rw [hr];rfl
   subst O;go_wp2
   go_ret
   exact ⟨rfl,rfl⟩
  | true =>
   have Z:=XS hr;have R:=xM yq (l.drop a);rw [List.length_drop] at R;obtain ⟨m,D⟩:∃m,m=Z3 yq (l.drop a):=⟨_,rfl⟩;rw [←D] at Z R;have c1:=zdJ (l.drop a) J (by rw [List.length_drop];omega)
   rw [show ((l.drop a).takeWhile fun c=>yq c.toNat).length=Z3 yq (l.drop a) from rfl,←D] at c1
   have Q:=o.out (a+m) (by omega)
   rw [Int.natCast_add] at Q;obtain ⟨b,H⟩:∃b,b=Z3 zV (l.drop (a+m)):=⟨_,rfl⟩;have Y:=xM zV (l.drop (a+m));rw [←H,List.length_drop] at Y;have c2:=qU (l.drop (a+m)) J (by rw [List.length_drop];omega)
   rw [show ((l.drop (a+m)).takeWhile fun c=>zV c.toNat).length=Z3 zV (l.drop (a+m)) from rfl,←H] at c2
   have X:Hid (G=a+m+b+Uq (l.drop (a+m+b))):=show G=a+m+b+Uq (l.drop (a+m+b)) by
    rw [y.out];have U:Uq (l.drop a)=m+Z0 ((l.drop a).drop m):=by unfold Uq;rw [if_pos hr,←D]
    rw [U,List.drop_drop,vy,←H,List.drop_drop];omega
   clear D H;go_wp2_with fail
   refine c1.mono ?_;clear c1;rintro e w2 ⟨rfl,rfl⟩;go_wp2_with fail
   refine c2.mono ?_;clear c2;rintro e w2 ⟨rfl,rfl⟩;go_wp2
   refine ⟨⟨a+m+b,by omega,by go_num,X.out⟩,by simp [intOf];omega⟩
end Go.Proofs.YtcphojjpapgblaaGreatDoor

import Derived.Test.YtbjndgachcdbcaaGreatDoorProg
import Derived.WalkKit
import Derived.WalkSpells
import Derived.Lib.Walk
import Derived.Lib.Zigzag
import Derived.Lib.VarintMem
import Derived.Lib.VarintDec
import Derived.OwnWalk
import Derived.Lib.UnsafeStr
import Derived.Laws.AppendOwnNone
import Derived.Lib.SliceRun
import Derived.Lib.AppendZerosOnto
import Derived.Lib.ConvBytes
import Derived.Lib.EndianBits
import Derived.Lib.MinMax
import Derived.Laws.IdiomStrings
import Derived.Deep.QuietTactic
import Derived.BigQuiet
namespace Go.Proofs.YtbjndgachcdbcaaGreatDoor
open Go.RowKit
set_option maxRecDepth 100000
theorem vZ:(Tryz.prog.info? 5).map (fun i=>(i.zero,i.size,i.bytes))=some (some (.int .u8 0),1,1):=by kernel_rfl
def YE (w:World) (v:Value) (bs:List UInt8):Prop :=
 ∃base cap,v=.slice base bs.length cap∧(base=none→bs=[]∧cap=0)∧bs.length≤cap∧cap≤maxLen ∧
  ∀a,base=some a→∀j u,(Lib.byteCells bs)[j]?=some u→w.cell? (a.add j)=some u
theorem Vv (l:List UInt8):∀v∈Lib.byteCells l,v.oneCell'=true:=by
 intro v c;simp only [Lib.byteCells,List.mem_map] at c;obtain ⟨b,_,rfl⟩:=c
 rfl
theorem bytesWorld_below (w:World) (e:TypeId) (s:ByteArray):Below w.heap.size w (Lib.bytesWorld w e s):=by
 refine ⟨rfl,rfl,rfl,by rw [Lib.bytesWorld_size];omega,fun k hk=>Lib.bytesWorld_at_old w e s k hk⟩
theorem yi (b j:Nat):(⟨b,0,none⟩:Addr).add j=⟨b,j,none⟩:=by
 unfold Addr.add
 split
 ·simp_all
 ·simp
def Xp (w:World) (base:Option Addr) (bs:List UInt8):Prop :=
 bs=[]∨∃b o,base=some ⟨b,o,none⟩∧∀j (h:j<bs.length),w.cell? ⟨b,o+j,none⟩=some (.int .u8 (bs[j].toNat:Int))
theorem Zq (b o j:Nat):(⟨b,o,none⟩:Addr).add j=⟨b,o+j,none⟩:=by
 unfold Addr.add
 split
 ·simp_all
 ·simp
theorem ZS (w:World) (base:Option Addr) (bs:List UInt8) (cap:Nat) (hr:Xp w base bs) :
  (convert 44 9 (.slice base bs.length cap)).run Tryz.prog w=.ok (.string ⟨bs.toArray⟩) w:=by
 rw [run_convert_bytes_string w 44 9 5 base bs.length cap Tryz.underlying44 Tryz.underlying5 Tryz.underlying9];cases base with
 | none =>
  rcases hr with rfl | ⟨b,o,h,_⟩
  ·simp [Conv.bytesToString];rfl
  ·cases h
 | some a =>
  have m:(loadCells a bs.length).run Tryz.prog w=.ok ((bs.map fun b=>(b.toNat:Int)).map (Value.int .u8)).toArray w:=by
   have h:=run_loadCells_list (P:=Tryz.prog) w a (Lib.byteCells bs) (fun j v hj=>by
    rcases hr with rfl | ⟨b,o,h,c⟩
    ·simp [Lib.byteCells] at hj
    ·cases h
     have e:j<bs.length:=by
      rcases Nat.lt_or_ge j bs.length with h | h
      ·exact h
      ·rw [List.getElem?_eq_none (by rw [Lib.byteCells_length];exact h)] at hj;cases hj
     rw [Zq,c j e]
     unfold Lib.byteCells at hj
     rw [List.getElem?_map,List.getElem?_eq_getElem e] at hj
     exact hj)
   rw [Lib.byteCells_length] at h;rw [h]
   simp [Lib.byteCells]
  rw [run_bytesToString w a bs.length cap _ m,foldl_push_byteCells]
  simp [ByteArray.empty,ByteArray.emptyWithCapacity]
  rfl
structure zZ (w:World) (p:Nat) (base:Option Addr) (cap:Nat) (bs:List UInt8) (at0 er:Nat):Prop where
 made:w.cell? ⟨p,0,none⟩=some (.bool true)
 b:w.cell? ⟨p,1,none⟩=some (.slice base bs.length cap)
 at_:w.cell? ⟨p,2,none⟩=some (.int .i64 at0)
 err:w.cell? ⟨p,3,none⟩=some (.int .i64 er)
 f2:w.frozen? ⟨p,2,none⟩=false
 f3:w.frozen? ⟨p,3,none⟩=false
 row:Xp w base bs
 len:bs.length≤cap
 cap:cap≤maxLen
 at_le:at0≤bs.length
 apart:∀a,base=some a→a.block≠p
 er9:er≤9
theorem ve {w w':World} {base:Option Addr} {bs:List UInt8} (h:Xp w base bs) (hk:∀a,base=some a→a.block<w.heap.size→w'.heap[a.block]?=w.heap[a.block]?):Xp w' base bs:=by
 rcases h with h | ⟨b,o,c,m⟩
 ·exact .inl h
 ·refine .inr ⟨b,o,c,fun j hj=>?_⟩
  have e:=m j hj;rw [World.cell?_of_block (w:=w) (a:=⟨b,o+j,none⟩) (hk ⟨b,o,none⟩ c (show b<w.heap.size from World.block_lt_of_cell? w ⟨b,o+j,none⟩ e))]
  exact e
theorem zZ.kept {w w':World} {p:Nat} {base:Option Addr} {cap:Nat} {bs:List UInt8} {at0 er:Nat} (h:zZ w p base cap bs at0 er)
  (hk:∀k,k<w.heap.size→(k=p∨∃a,base=some a∧a.block=k)→w'.heap[k]?=w.heap[k]?):zZ w' p base cap bs at0 er:=by
 have c:=hk p (World.block_lt_of_cell? w _ h.made) (.inl rfl)
 exact ⟨(World.cell?_of_block (w:=w) (a:=⟨p,0,none⟩) c).trans h.made,(World.cell?_of_block (w:=w) (a:=⟨p,1,none⟩) c).trans h.b,
  (World.cell?_of_block (w:=w) (a:=⟨p,2,none⟩) c).trans h.at_,(World.cell?_of_block (w:=w) (a:=⟨p,3,none⟩) c).trans h.err,
  (World.frozen?_of_block (w:=w) (a:=⟨p,2,none⟩) c).trans h.f2,(World.frozen?_of_block (w:=w) (a:=⟨p,3,none⟩) c).trans h.f3,
  ve h.row (fun a ha hl=>hk a.block hl (.inr ⟨a,ha,rfl⟩)),h.len,h.cap,h.at_le,h.apart,h.er9⟩
theorem zZ.below {w w':World} {B p:Nat} {base:Option Addr} {cap:Nat} {bs:List UInt8} {at0 er:Nat} (h:zZ w p base cap bs at0 er) (hb:Below B w w') (hB:w.heap.size≤B):zZ w' p base cap bs at0 er :=
 h.kept fun k hk _=>hb.block k (by omega)
theorem Z3 (w:World) (r:Option Nat):w.grownBy w r:=⟨rfl,rfl,rfl,Nat.le_refl _,fun _ _ _=>rfl⟩
theorem ZH {w:World} {B e n:Nat} {v:Value} {bs:List UInt8} (h:w.ownsRow B e 1 v n (Lib.byteCells bs)) :
  ∃base b,v=.slice base bs.length b∧Xp w base bs∧bs.length≤b∧b≤maxLen∧(∀a,base=some a→B≤a.block∧a.block<w.heap.size):=by
 have o:=h.1;rw [Lib.byteCells_length,Nat.mul_one] at o;have c:=h.lt;obtain ⟨E,F⟩:=h;rcases F with ⟨rfl,rfl⟩ | ⟨g,b,q,rfl,z,G,m,y,H,D⟩
 ·obtain rfl:bs=[]:=List.length_eq_zero_iff.1 o
  exact ⟨none,0,rfl,.inl rfl,Nat.le_refl _,Nat.zero_le _,fun a ha=>by cases ha⟩
 ·refine ⟨some ⟨g,0,none⟩,b,by rw [o],?_,by omega,y,fun a ha=>by cases ha;exact c g rfl⟩
  have A:w.ownsRow B e 1 (.slice (some ⟨g,0,none⟩) n b) n (Lib.byteCells bs):=⟨E,.inr ⟨g,b,q,rfl,z,G,m,y,H,D⟩⟩;refine .inr ⟨g,0,rfl,fun j hj=>?_⟩
  have u:=A.cells rfl j (.int .u8 (bs[j].toNat:Int)) (by unfold Lib.byteCells;rw [List.getElem?_map,List.getElem?_eq_getElem hj];rfl)
  rw [Zq] at u;exact u
theorem Ym {w:World} {bs:List UInt8} {g n:Nat} (hn:n=bs.length) (hm:n≤maxLen) (hc:∀j u,(Lib.byteCells bs)[j]?=some u→w.cell? ⟨g,j,none⟩=some u):YE w (.slice (some ⟨g,0,none⟩) n n) bs:=by
 subst hn;refine ⟨some ⟨g,0,none⟩,bs.length,rfl,(fun h=>by cases h),Nat.le_refl _,hm,fun a ha j u hj=>?_⟩
 cases ha
 rw [Zq,Nat.zero_add];exact hc j u hj
theorem Zn {ops:Array Oper} {rest:List Oper} {o:Oper} {a:Act} {w:World} {Q:Exit→Act→World→Prop} (hgd:o.guard=none) (s x:Operand)
  (ho:o.op=.call { callee:=.builtin .append,args:=#[s,x],argTypes:=#[44,44] })
  (B:Nat) (v:Value) (us:List UInt8) (hs:a.eval s=v) (hown:w.ownsRow B 5 1 v us.length (Lib.byteCells us)) (xv:Value) (bs:List UInt8) (hx:a.eval x=xv) (hv:YE w xv bs)
  (hb:us.length+bs.length≤140737488355328) (hB:B≤w.heap.size)
  (h:∀c b,b.ownsRow B 5 1 c (us++bs).length (Lib.byteCells (us++bs))→w.grownBy b v.ownBlock→wpList Tryz.prog ops Q rest (a.put o.dst c) b):wpList Tryz.prog ops Q (o::rest) a w:=by
 obtain ⟨D,A,e,u,y⟩:=info_parts vZ;obtain ⟨base,q,rfl,F,H,G,E⟩:=hv;cases base with
 | none =>
  obtain ⟨rfl,rfl⟩:=F rfl;refine wpList_append_own_none hgd s x 44 ho B 5 D 1 Tryz.underlying44 A v us.length _ hs hown hx ?_;refine h v w ?_ (Z3 _ _);rw [List.append_nil];exact hown
 | some ad =>
  refine wpList_append_own _ hgd s x 44 ho B 5 D (.int .u8 0) 1 1 Tryz.underlying44 A e u y rfl (by decide) v us.length _ hs hown ad bs.length q (Lib.byteCells bs) hx (by rw [Lib.byteCells_length,Nat.mul_one]) (E ad rfl) (Vv bs) (by unfold maxLen;omega) (by omega) hB ?_
  intro c b m z _;refine h c b ?_ z;rw [List.length_append,Lib.byteCells_append];exact m
theorem yb {w:World} {g r:Nat} (hr:r<256) (hc:w.cell? ⟨g,0,none⟩=some (.int .u8 (r:Int))):YE w (.slice (some ⟨g,0,none⟩) 1 1) [r.toUInt8] :=
 Ym rfl (by unfold maxLen;decide) (fun j u hj=>by
  match j,hj with
  | 0,hj=>simp [Lib.byteCells,Lib.toUInt8_toNat hr] at hj;subst hj;exact hc)
def Uz (n:Nat) (w:World):Type:={ wx:World // Below n w wx }
instance clsOne (n:Nat) (w:World):Nonempty (Uz n w):=⟨⟨w,Below.refl _ _⟩⟩
theorem ZM {P:Program} {id:Nat} {Q:Exit→Act→World→Prop} {a:Act} {w w0:World} {l:List Oper} {n:Nat} (hw:Below n w0 w) (hm:P.follows .mixedOrders=true) (hB:Region.lexB .any l.toArray=true)
  (h:wpQuiet P l.toArray (fun w'=>∃c:Uz n w0,w'=c.1) (fun a'=>∀w',(∃c:Uz n w0,w'=c.1)→Q .normal a' w') l a):(Code.region id l.toArray true).wp P Q a w :=
 wp_region_quiet (C:=fun w'=>∃c:Uz n w0,w'=c.1) hm hB ⟨⟨w.drew,hw.drew⟩,rfl⟩ (by simpa using h)
theorem ZT {P:Program} {f:FuncId} {args:Array Value} {v:Value} {n:Nat} {w:World} (h:∀wx,Below n w wx→Calls P f args wx fun e w''=>e=.returned v∧Below n w w'') (c:Uz n w) :
  Calls P f args c.1 fun e w''=>e=.returned v∧∃c':Uz n w,w''=c'.1 :=
 (h c.1 c.2).mono fun _ w'' ⟨he,hb⟩=>⟨he,⟨w'',hb⟩,rfl⟩
theorem Zh {n:Nat} {w:World} {p:Addr} {v:Value} (h:w.cell? p=some v) (hp:p.block<n) (c:Uz n w):c.1.cell? p=some v:=by
 rw [c.2.cell hp];exact h
end Go.Proofs.YtbjndgachcdbcaaGreatDoor

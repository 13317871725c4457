import Derived.Test.YtmbofhpmockmbaaGreatDoorProg
import Derived.WalkKit
import Derived.WalkSpells
import Derived.Lib.Walk
import Derived.Lib.Zigzag
import Derived.Lib.VarintMem
import Derived.Lib.VarintDec
import Derived.OwnWalk
import Derived.Lib.UnsafeStr
import Derived.Laws.AppendOwnNone
import Derived.Lib.SliceRun
import Derived.Lib.AppendZerosOnto
import Derived.Lib.ConvBytes
import Derived.Lib.EndianBits
import Derived.Lib.MinMax
import Derived.Laws.IdiomStrings
import Derived.Deep.QuietTactic
import Derived.BigQuiet
namespace Go.Proofs.YtmbofhpmockmbaaGreatDoor
open Go.RowKit
set_option maxRecDepth 100000
theorem zaf:(Tryz.prog.info? 5).map (fun i=>(i.zero,i.size,i.bytes))=some (some (.int .u8 0),1,1):=by kernel_rfl
def Xu (w:World) (v:Value) (bs:List UInt8):Prop :=
 ∃base cap,v=.slice base bs.length cap∧(base=none→bs=[]∧cap=0)∧bs.length≤cap∧cap≤maxLen ∧
  ∀a,base=some a→∀j u,(Lib.byteCells bs)[j]?=some u→w.cell? (a.add j)=some u
theorem qk (l:List UInt8):∀v∈Lib.byteCells l,v.oneCell'=true:=by
 intro v e;simp only [Lib.byteCells,List.mem_map] at e;obtain ⟨b,_,rfl⟩:=e
 rfl
theorem bytesWorld_below (w:World) (e:TypeId) (s:ByteArray):Below w.heap.size w (Lib.bytesWorld w e s):=by
 refine ⟨rfl,rfl,rfl,by rw [Lib.bytesWorld_size];omega,fun k hk=>Lib.bytesWorld_at_old w e s k hk⟩
theorem qm (b j:Nat):(⟨b,0,none⟩:Addr).add j=⟨b,j,none⟩:=by
 unfold Addr.add
 split
 ·simp_all
 ·simp
def vY (w:World) (base:Option Addr) (bs:List UInt8):Prop :=
 bs=[]∨∃b o,base=some ⟨b,o,none⟩∧∀j (h:j<bs.length),w.cell? ⟨b,o+j,none⟩=some (.int .u8 (bs[j].toNat:Int))
theorem Y3 (b o j:Nat):(⟨b,o,none⟩:Addr).add j=⟨b,o+j,none⟩:=by
 unfold Addr.add
 split
 ·simp_all
 ·simp
theorem XC (w:World) (base:Option Addr) (bs:List UInt8) (cap:Nat) (hr:vY w base bs) :
  (convert 39 9 (.slice base bs.length cap)).run Tryz.prog w=.ok (.string ⟨bs.toArray⟩) w:=by
 rw [run_convert_bytes_string w 39 9 5 base bs.length cap Tryz.underlying39 Tryz.underlying5 Tryz.underlying9];cases base with
 | none =>
  rcases hr with rfl | ⟨b,o,h,_⟩
  ·simp [Conv.bytesToString];rfl
  ·cases h
 | some a =>
  have z:(loadCells a bs.length).run Tryz.prog w=.ok ((bs.map fun b=>(b.toNat:Int)).map (Value.int .u8)).toArray w:=by
   have h:=run_loadCells_list (P:=Tryz.prog) w a (Lib.byteCells bs) (fun j v hj=>by
    rcases hr with rfl | ⟨b,o,h,e⟩
    ·simp [Lib.byteCells] at hj
    ·cases h
     have y:j<bs.length:=by
      rcases Nat.lt_or_ge j bs.length with h | h
      ·exact h
      ·rw [List.getElem?_eq_none (by rw [Lib.byteCells_length];exact h)] at hj;cases hj
     rw [Y3,e j y]
     unfold Lib.byteCells at hj
     rw [List.getElem?_map,List.getElem?_eq_getElem y] at hj
     exact hj)
   rw [Lib.byteCells_length] at h;rw [h]
   simp [Lib.byteCells]
  rw [run_bytesToString w a bs.length cap _ z,foldl_push_byteCells]
  simp [ByteArray.empty,ByteArray.emptyWithCapacity]
  rfl
structure yc (w:World) (p:Nat) (base:Option Addr) (cap:Nat) (bs:List UInt8) (at0 er:Nat):Prop where
 made:w.cell? ⟨p,0,none⟩=some (.bool true)
 b:w.cell? ⟨p,1,none⟩=some (.slice base bs.length cap)
 at_:w.cell? ⟨p,2,none⟩=some (.int .i64 at0)
 err:w.cell? ⟨p,3,none⟩=some (.int .i64 er)
 f2:w.frozen? ⟨p,2,none⟩=false
 f3:w.frozen? ⟨p,3,none⟩=false
 row:vY w base bs
 len:bs.length≤cap
 cap:cap≤maxLen
 at_le:at0≤bs.length
 apart:∀a,base=some a→a.block≠p
 er9:er≤9
theorem Ul {w w':World} {base:Option Addr} {bs:List UInt8} (h:vY w base bs) (hk:∀a,base=some a→a.block<w.heap.size→w'.heap[a.block]?=w.heap[a.block]?):vY w' base bs:=by
 rcases h with h | ⟨b,o,e,z⟩
 ·exact .inl h
 ·refine .inr ⟨b,o,e,fun j hj=>?_⟩
  have y:=z j hj;rw [World.cell?_of_block (w:=w) (a:=⟨b,o+j,none⟩) (hk ⟨b,o,none⟩ e (show b<w.heap.size from World.block_lt_of_cell? w ⟨b,o+j,none⟩ y))]
  exact y
theorem yc.kept {w w':World} {p:Nat} {base:Option Addr} {cap:Nat} {bs:List UInt8} {at0 er:Nat} (h:yc w p base cap bs at0 er)
  (hk:∀k,k<w.heap.size→(k=p∨∃a,base=some a∧a.block=k)→w'.heap[k]?=w.heap[k]?):yc w' p base cap bs at0 er:=by
 have e:=hk p (World.block_lt_of_cell? w _ h.made) (.inl rfl)
 exact ⟨(World.cell?_of_block (w:=w) (a:=⟨p,0,none⟩) e).trans h.made,(World.cell?_of_block (w:=w) (a:=⟨p,1,none⟩) e).trans h.b,
  (World.cell?_of_block (w:=w) (a:=⟨p,2,none⟩) e).trans h.at_,(World.cell?_of_block (w:=w) (a:=⟨p,3,none⟩) e).trans h.err,
  (World.frozen?_of_block (w:=w) (a:=⟨p,2,none⟩) e).trans h.f2,(World.frozen?_of_block (w:=w) (a:=⟨p,3,none⟩) e).trans h.f3,
  Ul h.row (fun a ha hl=>hk a.block hl (.inr ⟨a,ha,rfl⟩)),h.len,h.cap,h.at_le,h.apart,h.er9⟩
theorem yc.below {w w':World} {B p:Nat} {base:Option Addr} {cap:Nat} {bs:List UInt8} {at0 er:Nat} (h:yc w p base cap bs at0 er) (hb:Below B w w') (hB:w.heap.size≤B):yc w' p base cap bs at0 er :=
 h.kept fun k hk _=>hb.block k (by omega)
theorem yc.other {w w':World} {p q:Nat} {base:Option Addr} {cap:Nat} {bs:List UInt8} {at0 er:Nat} (h:yc w p base cap bs at0 er) (hg:w.grownBy w' (some q)) (hq:p≠q) (ha:∀a,base=some a→a.block≠q):yc w' p base cap bs at0 er :=
 h.kept fun k hk hor=>hg.block k hk (fun e=>by
  cases e
  rcases hor with o | ⟨a,o,y⟩
  ·exact hq o.symm
  ·exact ha a o y)
theorem VA (w:World) (r:Option Nat):w.grownBy w r:=⟨rfl,rfl,rfl,Nat.le_refl _,fun _ _ _=>rfl⟩
theorem uc {w:World} {base:Option Addr} {cap len:Nat} {bs:List UInt8} (h:Xu w (.slice base len cap) bs):len=bs.length∧vY w base bs∧bs.length≤cap∧cap≤maxLen:=by
 obtain ⟨D,E,I,G,K,H,J⟩:=h;cases I
 refine ⟨rfl,?_,K,H⟩
 by_cases h0:bs=[]
 ·exact .inl h0
 ·cases base with
  | none=>exact absurd (G rfl).1 h0
  | some a =>
   have y:0<bs.length:=by
    rcases Nat.eq_zero_or_pos bs.length with h | h
    ·exact absurd (List.length_eq_zero_iff.1 h) h0
    ·exact h
   have A:∀j (hj:j<bs.length),w.cell? (a.add j)=some (.int .u8 (bs[j].toNat:Int)):=fun j hj =>
    J a rfl j _ (by unfold Lib.byteCells;rw [List.getElem?_map,List.getElem?_eq_getElem hj];rfl)
   obtain ⟨b,o,z⟩:=a;have e:z=none:=by simpa [Addr.add] using World.cell?_spot (A 0 y)
   subst e;exact .inr ⟨b,o,rfl,fun j hj=>by rw [←Y3];exact A j hj⟩
theorem yd {w:World} {B e n:Nat} {v:Value} {bs:List UInt8} (h:w.ownsRow B e 1 v n (Lib.byteCells bs)) :
  ∃base o,v=.slice base bs.length o∧vY w base bs∧bs.length≤o∧o≤maxLen∧(∀a,base=some a→B≤a.block∧a.block<w.heap.size):=by
 have D:=h.1;rw [Lib.byteCells_length,Nat.mul_one] at D;have z:=h.lt;obtain ⟨N,K⟩:=h;rcases K with ⟨rfl,rfl⟩ | ⟨g,o,y,rfl,M,I,A,G,J,H⟩
 ·obtain rfl:bs=[]:=List.length_eq_zero_iff.1 D
  exact ⟨none,0,rfl,.inl rfl,Nat.le_refl _,Nat.zero_le _,fun a ha=>by cases ha⟩
 ·refine ⟨some ⟨g,0,none⟩,o,by rw [D],?_,by omega,G,fun a ha=>by cases ha;exact z g rfl⟩
  have L:w.ownsRow B e 1 (.slice (some ⟨g,0,none⟩) n o) n (Lib.byteCells bs):=⟨N,.inr ⟨g,o,y,rfl,M,I,A,G,J,H⟩⟩;refine .inr ⟨g,0,rfl,fun j hj=>?_⟩
  have E:=L.cells rfl j (.int .u8 (bs[j].toNat:Int)) (by unfold Lib.byteCells;rw [List.getElem?_map,List.getElem?_eq_getElem hj];rfl)
  rw [Y3] at E;exact E
theorem ud {w:World} {bs:List UInt8} {g n:Nat} (hn:n=bs.length) (hm:n≤maxLen) (hc:∀j u,(Lib.byteCells bs)[j]?=some u→w.cell? ⟨g,j,none⟩=some u):Xu w (.slice (some ⟨g,0,none⟩) n n) bs:=by
 subst hn;refine ⟨some ⟨g,0,none⟩,bs.length,rfl,(fun h=>by cases h),Nat.le_refl _,hm,fun a ha j u hj=>?_⟩
 cases ha
 rw [Y3,Nat.zero_add];exact hc j u hj
theorem Zp {ops:Array Oper} {rest:List Oper} {o:Oper} {a:Act} {w:World} {Q:Exit→Act→World→Prop} (hgd:o.guard=none) (s x:Operand)
  (ho:o.op=.call { callee:=.builtin .append,args:=#[s,x],argTypes:=#[39,39] })
  (B:Nat) (v:Value) (us:List UInt8) (hs:a.eval s=v) (hown:w.ownsRow B 5 1 v us.length (Lib.byteCells us)) (xv:Value) (bs:List UInt8) (hx:a.eval x=xv) (hv:Xu w xv bs)
  (hb:us.length+bs.length≤140737488355328) (hB:B≤w.heap.size)
  (h:∀e w',w'.ownsRow B 5 1 e (us++bs).length (Lib.byteCells (us++bs))→w.grownBy w' v.ownBlock→wpList Tryz.prog ops Q rest (a.put o.dst e) w'):wpList Tryz.prog ops Q (o::rest) a w:=by
 obtain ⟨i0,H,z,E,A⟩:=info_parts zaf;obtain ⟨base,D,rfl,I,L,K,J⟩:=hv;cases base with
 | none =>
  obtain ⟨rfl,rfl⟩:=I rfl;refine wpList_append_own_none hgd s x 39 ho B 5 i0 1 Tryz.underlying39 H v us.length _ hs hown hx ?_;refine h v w ?_ (VA _ _);rw [List.append_nil];exact hown
 | some ad =>
  refine wpList_append_own _ hgd s x 39 ho B 5 i0 (.int .u8 0) 1 1 Tryz.underlying39 H z E A rfl (by decide) v us.length _ hs hown ad bs.length D (Lib.byteCells bs) hx (by rw [Lib.byteCells_length,Nat.mul_one]) (J ad rfl) (qk bs) (by unfold maxLen;omega) (by omega) hB ?_
  intro e w' G y _;refine h e w' ?_ y;rw [List.length_append,Lib.byteCells_append];exact G
theorem Zr {w:World} {g r:Nat} (hr:r<256) (hc:w.cell? ⟨g,0,none⟩=some (.int .u8 (r:Int))):Xu w (.slice (some ⟨g,0,none⟩) 1 1) [r.toUInt8] :=
 ud rfl (by unfold maxLen;decide) (fun j u hj=>by
  match j,hj with
  | 0,hj=>simp [Lib.byteCells,Lib.toUInt8_toNat hr] at hj;subst hj;exact hc)
def Cls (n:Nat) (w:World):Type:={ wx:World // Below n w wx }
instance clsOne (n:Nat) (w:World):Nonempty (Cls n w):=⟨⟨w,Below.refl _ _⟩⟩
end Go.Proofs.YtmbofhpmockmbaaGreatDoor

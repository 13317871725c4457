import Derived.Test.YtpejpbbdgblbeaaGreatDoorMC6
import Derived.Lib.Builder
import Derived.Lib.AppendStr
import Derived.Test.YtpejpbbdgblbeaaGreatDoorRows
import Derived.OpenShut
import Derived.LaidLaws
import Derived.Lay
import Derived.LaidOnce
import Derived.Lib.LaidTab
namespace Go.Proofs.YtpejpbbdgblbeaaGreatDoor
open Go.RowKit Go.Shelf
set_option maxHeartbeats 16000000
set_option maxRecDepth 100000
def ZV (w : World) : Prop := Ys w ∧ Lib.TabIs Tryz.prog w "internal/strconv.uint64pow10" .u64 Lib.pow10Tab
theorem ZV.below {w w':World} {B:Nat} (h:ZV w) (hb:Below B w w') (hB:w.heap.size≤B):ZV w' :=
 ⟨h.1.below hb hB,Lib.tabBelow_of_tabIs h.2 w' (hb.mono hB)⟩
def VN (k n:Int) (s:List UInt8):List UInt8:=if k=2 then Lib.itoa n else if k=3 then Ya s else s
theorem zbb (k n a b:Int) (s:List UInt8) (w:World) (hn0:-9223372036854775808≤n) (hn1:n≤9223372036854775807) (hl:s.length≤100000000) (ht:ZV w) :
  Calls Tryz.prog 145 #[.agg #[.int .i64 k,.string (za s),.int .i64 n,.int .i64 a,.int .i64 b]] w fun e w'=>e=.returned (.string (za (VN k n s)))∧Below w.heap.size w w':=by
 obtain ⟨w1,hw1⟩:∃w1,w1=w.alloc (.cells #[.int .i64 k,.string (za s),.int .i64 n,.int .i64 a,.int .i64 b] 66):=⟨_,rfl⟩;have hb1:Below w.heap.size w w1:=by rw [hw1];exact (Below.refl _ w).alloc (Nat.le_refl _) _
 have HT:Hid (ZV w1):=ht.below hb1 (Nat.le_refl _);have HB1:Hid (Below w.heap.size w w1):=hb1;have hz1:=hb1.size;clear ht hb1
 by_cases h2:k=2
 ·have HR:Hid (VN k n s=Lib.itoa n):=if_pos h2
  have c1:=Tryz.strconv_Itoa n hn0 hn1 w1 HT.out.2;rw [hw1] at c1;subst h2
  go_enter Tryz.func145,Tryz.ntmps145
  go_wp2_with fail
  refine c1.mono ?_;clear c1;rintro e w2 ⟨rfl,q,os,hw2⟩
  have HB2:Hid (Below w.heap.size w w2):=by
   show Below w.heap.size w w2
   rw [←hw1] at hw2;rw [hw2];exact HB1.out.trans (Lib.below_grow w.heap.size w1 hz1 q os)
  clear hw2 hw1;go_wp2
  go_ret
  rw [HR.out];exact ⟨rfl,HB2.out⟩
 ·have h2b:(k==2)=false:=by rw [beq_eq_false_iff_ne];exact h2
  by_cases h3:k=3
  ·have HR:Hid (VN k n s=Ya s):=show _=_ by unfold VN;rw [if_neg h2,if_pos h3]
   have c1:=zcr s w1 hl HT.out.1;rw [hw1] at c1;subst h3
   go_enter Tryz.func145,Tryz.ntmps145
   go_wp2_with fail
   refine c1.mono ?_;clear c1;rintro e w2 ⟨rfl,hb2⟩
   have HB2:Hid (Below w.heap.size w w2):=by
    show Below w.heap.size w w2
    rw [←hw1] at hb2;exact HB1.out.trans (hb2.mono hz1)
   clear hb2 hw1;go_wp2
   go_ret
   rw [HR.out];exact ⟨rfl,HB2.out⟩
  ·have h3b:(k==3)=false:=by rw [beq_eq_false_iff_ne];exact h3
   have HR:Hid (VN k n s=s):=show _=_ by unfold VN;rw [if_neg h2,if_neg h3]
   have HB2:Hid (Below w.heap.size w (w.alloc (.cells #[.int .i64 k,.string (za s),.int .i64 n,.int .i64 a,.int .i64 b] 66))):=by rw [←hw1];exact HB1.out
   clear hw1
   go_enter Tryz.func145,Tryz.ntmps145
   go_wp2
   go_ret
   rw [HR.out];exact ⟨rfl,HB2.out⟩
def xU (k n:Int) (s:List UInt8):Prop:=(Zc (VN k n s)).e=0∧((Zc (VN k n s)).k:Int)=k∧(Zc (VN k n s)).s=s∧((Zc (VN k n s)).n:Int)=n
instance (k n:Int) (s:List UInt8):Decidable (xU k n s):=by unfold xU;infer_instance
def tkB (k n:Int) (s:List UInt8):List UInt8 × Nat:=if xU k n s then (VN k n s,0) else ([],2)
theorem zdz (k n:Int) (s:List UInt8) (hn0:-9223372036854775808≤n) (hn1:n≤9223372036854775807):(VN k n s).length≤2*s.length+30:=by
 have key:∀u:Nat,u≤9223372036854775808→(Lib.decDigits u).length≤20:=fun u hu=>by
  rw [Lib.decDigits_length];rcases Nat.lt_or_ge (Lib.nDigits u) 21 with h | h
  ·omega
  ·exfalso
   have h1:=Lib.nDigits_pos u
   have:∀(j u:Nat),j+1≤Lib.nDigits u→10 ^ j≤u∨j=0:=by
    intro j
    induction j with
    | zero=>intro u _;exact .inr rfl
    | succ j ih =>
     intro u hj
     by_cases hu:u<10
     ·rw [Lib.nDigits_small hu] at hj;omega
     ·rw [Lib.nDigits_big hu] at hj
      left
      rcases ih (u / 10) (by omega) with h9 | h9
      ·rw [Nat.pow_succ];omega
      ·subst h9;omega
   rcases this 19 u (by omega) with h9 | h9
   ·have:(10:Nat) ^ 19=10000000000000000000:=by decide
    omega
   ·omega
 unfold VN
 split
 ·unfold Lib.itoa
  split
  ·have:=key n.natAbs (by omega)
   rw [List.length_cons];omega
  ·have:=key n.toNat (by omega)
   omega
 ·split
  ·unfold Ya
   have:=za6 s
   rw [List.length_cons,List.length_append,List.length_singleton];omega
  ·omega
theorem zbc (k n a b:Int) (s:List UInt8) (w:World) (hn0:-9223372036854775808≤n) (hn1:n≤9223372036854775807) (hl:s.length≤100000000) (ht:ZV w) :
  Calls Tryz.prog 121 #[.agg #[.int .i64 k,.string (za s),.int .i64 n,.int .i64 a,.int .i64 b]] w fun e w'=>e=.returned (.tuple #[.string (za (tkB k n s).1),.int .i64 (tkB k n s).2])∧Below w.heap.size w w':=by
 obtain ⟨w1,hw1⟩:∃w1,w1=w.alloc (.cells #[.int .i64 k,.string (za s),.int .i64 n,.int .i64 0,.int .i64 0] 66):=⟨_,rfl⟩;have hb1:Below w.heap.size w w1:=by rw [hw1];exact (Below.refl _ w).alloc (Nat.le_refl _) _
 have hz1:w1.heap.size=w.heap.size+1:=by rw [hw1];simp
 have hblk:w1.heap[w.heap.size]?=some (.cells #[.int .i64 k,.string (za s),.int .i64 n,.int .i64 0,.int .i64 0] 66 (0,0)):=by rw [hw1];exact World.alloc_heap_new w _
 have HT:Hid (ZV w1):=ht.below hb1 (Nat.le_refl _);have HB1:Hid (Below w.heap.size w w1):=hb1;have c1:=zbb k n 0 0 s w1 hn0 hn1 hl HT.out;have hwl:=zdz k n s hn0 hn1;have HTK:Hid (tkB k n s=if xU k n s then (VN k n s,0) else ([],2)):=rfl
 have HBB:Hid (xU k n s↔(Zc (VN k n s)).e=0∧((Zc (VN k n s)).k:Int)=k∧(Zc (VN k n s)).s=s∧((Zc (VN k n s)).n:Int)=n):=Iff.rfl;obtain ⟨x,hx⟩:∃x,x=VN k n s:=⟨_,rfl⟩;rw [←hx] at c1 hwl HTK HBB;obtain ⟨R,hR⟩:∃R,R=Zc x:=⟨_,rfl⟩;rw [←hR] at HBB;have c2:=fun wx (h:Ys wx)=>QD x wx (by omega) h
 rw [←hR] at c2
 unfold y6 at c2
 have c3:=fun wx=>QG x wx (by omega)
 clear ht hb1 hx hR;rw [hw1] at c1
 go_enter Tryz.func121,Tryz.ntmps121
 go_wp2_with fail
 refine c1.mono ?_;clear c1;rw [←hw1];rintro e w2 ⟨rfl,hb2⟩;have hT2:=HT.out.below hb2 (Nat.le_refl _);have hblk2:=(hb2.block w.heap.size (by omega)).trans hblk
 have HB2:Hid (Below w.heap.size w w2):=HB1.out.trans (hb2.mono (by omega))
 have hz2:w.heap.size+1≤w2.heap.size:=by rw [←hz1];exact hb2.size
 have c2':=c2 w2 hT2.1;clear hb2 c2 hw1 hblk hT2;go_wp2_with fail
 refine c2'.mono ?_;clear c2';rintro e w3 ⟨rfl,hb3⟩;have hblk3:=(hb3.block w.heap.size (by omega)).trans hblk2
 have HB3:Hid (Below w.heap.size w w3):=HB2.out.trans (hb3.mono (by omega))
 have hz3:w.heap.size+1≤w3.heap.size:=Nat.le_trans hz2 hb3.size;have q0:∀o,(w3.alloc o).cell? ⟨w.heap.size,0,none⟩=some (.int .i64 k):=fun o=>Lib.cell?_alloc_some o (by rw [cell_of_row _ _ _ _ _ _ hblk3];rfl)
 have q1:∀o,(w3.alloc o).cell? ⟨w.heap.size,1,none⟩=some (.string (za s)):=fun o=>Lib.cell?_alloc_some o (by rw [cell_of_row _ _ _ _ _ _ hblk3];rfl)
 have q2:∀o,(w3.alloc o).cell? ⟨w.heap.size,2,none⟩=some (.int .i64 n):=fun o=>Lib.cell?_alloc_some o (by rw [cell_of_row _ _ _ _ _ _ hblk3];rfl)
 have q3:∀o,(w3.alloc o).cell? ⟨w.heap.size,3,none⟩=some (.int .i64 0):=fun o=>Lib.cell?_alloc_some o (by rw [cell_of_row _ _ _ _ _ _ hblk3];rfl)
 have q4:∀o,(w3.alloc o).cell? ⟨w.heap.size,4,none⟩=some (.int .i64 0):=fun o=>Lib.cell?_alloc_some o (by rw [cell_of_row _ _ _ _ _ _ hblk3];rfl)
 clear hb3 hblk2 hblk3
 by_cases he:R.e=0
 ·rw [he]
  by_cases hk:(R.k:Int)=k
  ·by_cases hs:R.s=s
   ·by_cases hn:(R.n:Int)=n
    ·have HTT:Hid (tkB k n s=(x,0)):=HTK.out.trans (if_pos (HBB.out.2 ⟨he,hk,hs,hn⟩))
     rw [hk,hs,hn];have c3':=c3 (w3.alloc (.cells #[.int .i64 k,.string (za s),.int .i64 n,.int .i64 0,.int .i64 0] 66));go_wp2_with fail
     refine c3'.mono ?_;clear c3' c3;rintro e w4 ⟨rfl,hb4⟩;have HB4:Hid (Below w.heap.size w w4):=(HB3.out.alloc (by omega) _).trans (hb4.mono (by simp;omega))
     clear hb4;go_wp2
     go_ret2
     rw [HTT.out];exact ⟨rfl,HB4.out⟩
    ·have HTT:Hid (tkB k n s=([],2)):=HTK.out.trans (if_neg (fun h=>hn (HBB.out.1 h).2.2.2))
     have hnb:((R.n:Int)==n)=false:=by rw [beq_eq_false_iff_ne];exact hn
     rw [hk,hs];clear c3;go_wp2
     go_ret2
     rw [HTT.out];exact ⟨rfl,HB3.out.alloc (by omega) _⟩
   ·have HTT:Hid (tkB k n s=([],2)):=HTK.out.trans (if_neg (fun h=>hs (HBB.out.1 h).2.2.1))
    have hsb:(R.s==s)=false:=by rw [zgq];exact decide_eq_false hs
    rw [hk];clear c3;go_wp2
    go_ret2
    rw [HTT.out];exact ⟨rfl,HB3.out.alloc (by omega) _⟩
  ·have HTT:Hid (tkB k n s=([],2)):=HTK.out.trans (if_neg (fun h=>hk (HBB.out.1 h).2.1))
   have hkb:((R.k:Int)==k)=false:=by rw [beq_eq_false_iff_ne];exact hk
   clear c3;go_wp2
   go_ret2
   rw [HTT.out];exact ⟨rfl,HB3.out.alloc (by omega) _⟩
 ·have HTT:Hid (tkB k n s=([],2)):=HTK.out.trans (if_neg (fun h=>he (HBB.out.1 h).1))
  have heb:((R.e:Int) != 0)=true:=by rw [bne_iff_ne];omega
  clear c3;go_wp2
  go_ret2
  rw [HTT.out];exact ⟨rfl,HB3.out.alloc (by omega) _⟩
theorem UD (B:Nat) (ty:TypeId) (v:Value) (us bs:List UInt8) (w:World) (hown:w.ownsRow B 5 1 v us.length (Lib.byteCells us)) (hb:us.length+bs.length≤140737488355328) (hB:B≤w.heap.size) :
  ∃v' w',(Builtin.append_ #[120,9] ty #[v,.string (za bs)]).run Tryz.prog w=.ok v' w'∧w'.ownsRow B 5 1 v' (us++bs).length (Lib.byteCells (us++bs))∧w.grownBy w' v.ownBlock∧(v'.ownBlock=v.ownBlock∨∀k,v'.ownBlock=some k→w.heap.size≤k):=by
 obtain ⟨i0,hi,hz0,hz1,hz2⟩:=info_parts zds;have hsz:(za bs).size=bs.length:=Zs bs;obtain ⟨v',w',hr,ho,hg,-⟩:=Lib.run_append_own_string (P:=Tryz.prog) w B 120 9 ty 5 i0 Tryz.underlying120 Tryz.underlying9 hi hz0 hz1 hz2 v us.length _ hown (za bs) (by rw [hsz];unfold maxLen;omega) (by omega) hB
 refine ⟨v',w',hr,?_,hg,?_⟩
 ·rw [List.length_append,Lib.byteCells_append]
  rw [hsz] at ho;exact ho
 ·rcases hown.2 with ⟨rfl,hx⟩ | ⟨g,cap,cur,rfl,hbg,hgg,hnc,hcm,hcs,htake⟩
  ·right
   have hown2:w.ownsRow w.heap.size 5 1 (.slice none 0 0) us.length (Lib.byteCells us):=⟨hown.1,.inl ⟨rfl,hx⟩⟩;obtain ⟨v2,w2,hr2,ho2,-,-⟩:=Lib.run_append_own_string (P:=Tryz.prog) w w.heap.size 120 9 ty 5 i0 Tryz.underlying120 Tryz.underlying9 hi hz0 hz1 hz2 _ us.length _ hown2 (za bs) (by rw [hsz];unfold maxLen;omega) (by omega) (Nat.le_refl _)
   have e:=hr.symm.trans hr2;simp only [Result.ok.injEq] at e;intro k hk;rw [e.1] at hk;exact (ho2.lt k hk).1
  ·by_cases hroom:us.length+(za bs).size≤cap
   ·left
    have hr2:=Lib.run_append_room_string (P:=Tryz.prog) w 120 9 ty 5 i0 Tryz.underlying120 Tryz.underlying9 hi hz1 g us.length cap cur hgg (za bs) hroom (by omega)
    have e:=hr.symm.trans hr2;simp only [Result.ok.injEq] at e;rw [e.1];rfl
   ·right
    have hxl:(Lib.byteCells us).length=us.length:=by simpa using hown.1
    have hr2:=Lib.run_append_grow_string (P:=Tryz.prog) w 120 9 ty 5 i0 (.int .u8 0) Tryz.underlying120 Tryz.underlying9 hi hz0 ⟨g,0,none⟩ us.length cap (Lib.byteCells us) (by rw [hz1];omega) (hown.cells (g:=g) rfl) (za bs) (by omega) (by omega) (by rw [hz2];exact growslice_fits (by omega) (by omega))
    have e:=hr.symm.trans hr2;simp only [Result.ok.injEq] at e;intro k hk;rw [e.1] at hk
    simp [Value.ownBlock] at hk
    omega
theorem zbd {ops:Array Oper} {rest:List Oper} {o:Oper} {a:Act} {w:World} {Q:Exit→Act→World→Prop} (hgd:o.guard=none) (s x:Operand)
  (ho:o.op=.call { callee:=.builtin .append,args:=#[s,x],argTypes:=#[120,9] })
  (B:Nat) (v:Value) (us:List UInt8) (hs:a.eval s=v) (hown:w.ownsRow B 5 1 v us.length (Lib.byteCells us)) (bs:List UInt8) (hx:a.eval x=.string (za bs))
  (hb:us.length+bs.length≤140737488355328) (hB:B≤w.heap.size)
  (h:∀v' w',w'.ownsRow B 5 1 v' (us++bs).length (Lib.byteCells (us++bs))→w.grownBy w' v.ownBlock→(v'.ownBlock=v.ownBlock∨∀k,v'.ownBlock=some k→w.heap.size≤k)→wpList Tryz.prog ops Q rest (a.put o.dst v') w'):wpList Tryz.prog ops Q (o::rest) a w:=by
 refine wpList_plain hgd fun K hK=>?_
 obtain ⟨v',w',hr,h2,h3,h4⟩:=UD B o.type v us bs w hown hb hB
 unfold Oper.wp execOp
 simp only [ho,resolve,invoke,builtin,Sem.run_bind,Sem.run_pure,Result.andThen_ok,List.map_toArray,List.map_cons,List.map_nil,hs,hx,hr];exact hK _ _ (h v' w' h2 h3 h4)
structure Xj (r:Nat) (q:Option Nat) (l:List UInt8) (lo:Bool) (w:World):Prop where
 has:∃p v,w.heap[r]?=some (.cells #[p,v,.bool lo] 124 (0,0))∧(p=.pointer none∨p=.pointer (some ⟨r,0,none⟩))∧w.ownsRow 0 5 1 v l.length (Lib.byteCells l)∧v.ownBlock=q
 other:q≠some r
structure zX (r:Nat) (q:Option Nat) (w:World) (q':Option Nat) (w':World):Prop where
 os:w'.os=w.os
 tape:w'.tape=w.tape
 output:w'.output=w.output
 size:w.heap.size≤w'.heap.size
 block:∀k,k<w.heap.size→k≠r→q≠some k→w'.heap[k]?=w.heap[k]?
 row:q'=q∨∀k,q'=some k→w.heap.size≤k
theorem zX.refl (r:Nat) (q:Option Nat) (w:World):zX r q w q w:=⟨rfl,rfl,rfl,Nat.le_refl _,fun _ _ _ _=>rfl,.inl rfl⟩
theorem zX.trans {r:Nat} {q q1 q2:Option Nat} {w w1 w2:World} (h:zX r q w q1 w1) (h2:zX r q1 w1 q2 w2):zX r q w q2 w2:=by
 refine ⟨h2.os.trans h.os,h2.tape.trans h.tape,h2.output.trans h.output,Nat.le_trans h.size h2.size,fun k hk hr hq=>?_,?_⟩
 ·refine (h2.block k (Nat.lt_of_lt_of_le hk h.size) hr fun e=>?_).trans (h.block k hk hr hq)
  rcases h.row with h9 | h9
  ·exact hq (h9 ▸ e)
  ·have:=h9 k e;omega
 ·rcases h2.row with e | e
  ·rw [e];exact h.row
  ·exact .inr fun k hk=>Nat.le_trans h.size (e k hk)
theorem zX.alloc {r:Nat} {q q':Option Nat} {w w':World} (h:zX r q w q' w') (ob:Obj):zX r q w q' (w'.alloc ob) :=
 ⟨h.os,h.tape,h.output,by have:=h.size;simp;omega,fun k hk hr hq=>(Below.heap_alloc _ _ _ (Nat.lt_of_lt_of_le hk h.size)).trans (h.block k hk hr hq),h.row⟩
theorem zX.below {r:Nat} {q:Option Nat} {w w':World} (h:Below w.heap.size w w'):zX r q w q w':=⟨h.os,h.tape,h.output,h.size,fun k hk _ _=>h.block k hk,.inl rfl⟩
theorem zX.set {r P j:Nat} {q q':Option Nat} {w w':World} (h:zX r q w q' w') (hP:w.heap.size≤P) (v:Value):zX r q w q' (w'.setCell ⟨P,j,none⟩ v) :=
 ⟨h.os,h.tape,h.output,by have:=h.size;simpa using this,fun k hk hr hq=>(Below.heap_setCell _ _ _ _ (by simp;omega)).trans (h.block k hk hr hq),h.row⟩
theorem Xj.lt {r:Nat} {q:Option Nat} {l:List UInt8} {lo:Bool} {w:World} (h:Xj r q l lo w):r<w.heap.size∧∀k,q=some k→k<w.heap.size:=by
 obtain ⟨⟨p,v,hb,-,ho,rfl⟩,-⟩:=h;exact ⟨(Array.getElem?_eq_some_iff.1 hb).1,fun k hk=>(ho.lt k hk).2⟩
theorem Xj.keep {r:Nat} {q:Option Nat} {l:List UInt8} {lo:Bool} {w w':World} (h:Xj r q l lo w) (hr:w'.heap[r]?=w.heap[r]?) (hq:∀k,q=some k→w'.heap[k]?=w.heap[k]?):Xj r q l lo w':=by
 obtain ⟨⟨p,v,hb,hp,ho,rfl⟩,hne⟩:=h;refine ⟨⟨p,v,hr.trans hb,hp,⟨ho.1,?_⟩,rfl⟩,hne⟩;rcases ho.2 with h9 | ⟨g,cap,cur,rfl,h2,h3,h4⟩
 ·exact .inl h9
 ·exact .inr ⟨g,cap,cur,rfl,h2,(hq g rfl).trans h3,h4⟩
theorem Xj.alloc {r:Nat} {q:Option Nat} {l:List UInt8} {lo:Bool} {w:World} (h:Xj r q l lo w) (ob:Obj):Xj r q l lo (w.alloc ob) :=
 h.keep (Below.heap_alloc _ _ _ h.lt.1) fun k hk=>Below.heap_alloc _ _ _ (h.lt.2 k hk)
theorem Xj.below {r:Nat} {q:Option Nat} {l:List UInt8} {lo:Bool} {w w':World} (h:Xj r q l lo w) (hb:Below w.heap.size w w'):Xj r q l lo w' :=
 h.keep (hb.block _ h.lt.1) fun k hk=>hb.block _ (h.lt.2 k hk)
theorem um:(Tryz.prog.info? 122).map (·.size)=some 2:=by kernel_rfl
theorem zam:liesAt Tryz.prog Tryz.prog.depth 124 (3 / Tryz.prog.cellsOf 124) 0 122 1=true:=by kernel_rfl
theorem zcy (r:Nat) (w:World) (h0:w.cell? ⟨r,0,none⟩=some (.pointer (some ⟨r,0,none⟩))) :
  Calls Tryz.prog 146 #[.pointer (some ⟨r,0,none⟩)] w fun e w'=>e=.returned (.tuple #[])∧w'=w:=by
 obtain ⟨j,hj,_⟩:=Option.map_eq_some_iff.1 um
 go_enter Tryz.func146,Tryz.ntmps146
 go_wp2
 rw [Lib.run_neq_ptr_same w _ Tryz.underlying119 hj];go_wp2
 go_end0
 exact ⟨rfl,rfl⟩
theorem zbe (r:Nat) (w:World) (h0:w.cell? ⟨r,0,none⟩=some (.pointer none)) (hsh:w.shape? r=some (124,3)) (hfz:w.frozen? ⟨r,0,none⟩=false) :
  Calls Tryz.prog 146 #[.pointer (some ⟨r,0,none⟩)] w fun e w'=>e=.returned (.tuple #[])∧w'=w.setCell ⟨r,0,none⟩ (.pointer (some ⟨r,0,none⟩)):=by
 obtain ⟨j,hj,hjs⟩:=Option.map_eq_some_iff.1 um
 go_enter Tryz.func146,Tryz.ntmps146
 go_wp2
 rw [Lib.run_to_unsafe w ⟨r,0,none⟩ Tryz.underlying119 Tryz.underlying174 hj (by rw [hjs];decide) hsh (Nat.zero_lt_succ 2)]
 simp only [Result.andThen];rw [Oper.upon_value];go_wp2
 rw [run_callFunc_extern Tryz.func179 (by kernel_rfl) (by kernel_rfl) (by kernel_rfl) (e:=Extern.AbiNoEscape.same) (by kernel_rfl)]
 rw [Lib.run_noEscape];simp only [Result.andThen];rw [Oper.upon_value];go_wp2
 rw [Lib.run_from_unsafe w ⟨r,0,none⟩ Tryz.underlying174 Tryz.underlying119 hj hsh zam];simp only [Result.andThen];rw [Oper.upon_value];go_wp2
 go_end0
 exact ⟨rfl,rfl⟩
end Go.Proofs.YtpejpbbdgblbeaaGreatDoor
namespace Go.Proofs.YtpejpbbdgblbeaaGreatDoor
open Go.ChangeShapes Go.WideShapes Go.RowKit
set_option maxHeartbeats 16000000
set_option maxRecDepth 100000
theorem zdA (a:ByteArray):za a.data.toList=a:=by
 apply ByteArray.ext
 unfold za
 simp
theorem Xk {P:Program} {w:World} {n:String} {d:DataW Unit}:∀{laid:List (String × DataW Unit)} {ps:List MemPlace},DataW.LaidVars P w laid ps→(n,d)∈laid →
  ∃g t cs fuel p,P.globalNamed n=some g∧(P.globals[g]?).map (·.type)=some t∧w.var? P n=some cs∧DataW.trod (fun _=>()) P w 0 (fun _=>true) false fuel t cs.toList=some (d,p)
 | [],_,_,h=>by cases h
 | (_,_)::_,_,⟨g,t,cs,fuel,p,_,hg,ht,hv,hd,hr,_⟩,h=>by
  rcases List.mem_cons.1 h with e | e
  ·cases e;exact ⟨g,t,cs,fuel,p,hg,ht,hv,hd⟩
  ·exact Xk hr e
theorem QI {P:Program} {w:World} {nm:String} {g n:Nat} {t e:TypeId} {ls:List (List UInt8)} {cs:Array Value} {fuel:Nat} {p:List MemPlace}
  (hu:P.underlying t=some (.array n e)) (hs:P.underlying e=some .string) (hc:P.cellsOf e=1) (hn:n=ls.length) (hg:P.globalNamed nm=some g) (hv:w.var? P nm=some cs)
  (hd:DataW.trod (fun _=>()) P w 0 (fun _=>true) false fuel t cs.toList=some (.agg (ls.map fun l=>.lit (.string l)),p)) :
  ∀j (h:j<ls.length),w.cell? ⟨g,j,none⟩=some (.string (za ls[j])):=by
 intro j h;obtain ⟨xs,m,-,ex,-,hl,hel⟩:=DataW.trod_array hu hd;have e1:=DataW.agg.inj (Prod.mk.inj ex).1;have hj:=hel j (by omega)
 rw [hc,Nat.mul_one] at hj;have hxj:j<xs.length:=by omega
 rw [List.getElem?_eq_getElem hxj] at hj;obtain ⟨s,hs1,hs2,-⟩:=DataW.trod_string hs hj;have e2:(ls.map fun l=>(DataW.lit (.string l):DataW Unit))[j]?=(xs.map (·.1))[j]?:=by rw [e1]
 rw [List.getElem?_map,List.getElem?_map,List.getElem?_eq_getElem h,List.getElem?_eq_getElem hxj,hs2] at e2;simp only [Option.map_some,Option.some.injEq,DataW.lit.injEq,Lit.string.injEq] at e2
 have e3:s=za ls[j]:=by
  apply ByteArray.ext
  rw [e2]
 rw [World.var?_cell hg hv j,←e3]
 have e4:(cs.toList.drop j)[0]?=some (.string s):=by
  have:=congrArg (fun l=>l[0]?) hs1
  simpa [List.getElem?_take] using this
 rw [List.getElem?_drop] at e4
 simpa using e4
theorem zbf:∃f0 f1:Field,Tryz.prog.underlying 228=some (.struct #[f0,f1])∧f0.type=5∧f1.type=5∧f0.offset=0∧f1.offset=1:=⟨_,_,Tryz.underlying228,rfl,rfl,rfl,rfl⟩
theorem QJ:Tryz.prog.cellsOf 5=1:=by kernel_rfl
theorem zcz:Tryz.prog.cellsOf 228=2:=by kernel_rfl
theorem uO:Tryz.prog.cellsOf 9=1:=by kernel_rfl
theorem uP {w:World} {m:Nat} {cs:List Value} {a b:Int} {p:List MemPlace}
  (h:DataW.trod (fun _=>()) Tryz.prog w 0 (fun _=>true) false m 228 cs=some (.agg [.lit (.int .u8 a),.lit (.int .u8 b)],p)):cs[0]?=some (.int .u8 a)∧cs[1]?=some (.int .u8 b):=by
 obtain ⟨f0,f1,hu,t0,t1,o0,o1⟩:=zbf;obtain ⟨xs,n,-,ex,-,hl,hel⟩:=DataW.trod_struct hu h;have e1:=DataW.agg.inj (Prod.mk.inj ex).1;have h0:=hel 0 f0 rfl;have h1:=hel 1 f1 rfl;rw [t0,o0,QJ] at h0;rw [t1,o1,QJ] at h1
 match xs,hl with
 | [x0,x1],_ =>
  simp only [List.map_cons,List.map_nil,List.cons.injEq,and_true] at e1;obtain ⟨z0,a0,b0,-⟩:=DataW.trod_int Tryz.underlying5 h0;obtain ⟨z1,a1,b1,-⟩:=DataW.trod_int Tryz.underlying5 h1;rw [b0,b1] at e1;simp only [DataW.lit.injEq,Lit.int.injEq,true_and] at e1;obtain ⟨rfl,rfl⟩:=e1;have q0:=congrArg (fun l=>l[0]?) a0
  have q1:=congrArg (fun l=>l[0]?) a1
  simp only [List.getElem?_take,List.getElem?_drop] at q0 q1;exact ⟨by simpa using q0,by simpa using q1⟩
def laidX : List (String × DataW Unit) := [("hindcast/lex.words", Rows.laid_hindcast_lex_words), ("hindcast/lex.signs", Rows.laid_hindcast_lex_signs), ("hindcast/lex.escapes", Rows.laid_hindcast_lex_escapes), ("strconv.ErrRange", Rows.laid_strconv_ErrRange), ("internal/strconv.uint64pow10", Rows.laid_internal_strconv_uint64pow10)]
theorem zec {W:World} {laid:List (String × DataW Unit)} (h:laidMet Tryz.prog laid W) (hm:∀x∈laidX,x∈laid):Ys W:=by
 obtain ⟨ps,hv,-⟩:=h;refine ⟨?_,?_,?_,?_⟩
 ·obtain ⟨g, t, cs, fuel, p, hg, ht, hvar, hd⟩ := Xk (n := "hindcast/lex.words") (d := Rows.laid_hindcast_lex_words) hv (hm _ (by unfold laidX; simp))
  obtain rfl := Option.some.inj ((show Tryz.prog.globalNamed "hindcast/lex.words" = some 4 by kernel_rfl).symm.trans hg)
  obtain rfl:=Option.some.inj ((show (Tryz.prog.globals[4]?).map (·.type)=some 226 by kernel_rfl).symm.trans ht)
  exact QI (ls:=wordsL) Tryz.underlying226 Tryz.underlying9 uO rfl hg hvar hd
 ·obtain ⟨g, t, cs, fuel, p, hg, ht, hvar, hd⟩ := Xk (n := "hindcast/lex.signs") (d := Rows.laid_hindcast_lex_signs) hv (hm _ (by unfold laidX; simp))
  obtain rfl := Option.some.inj ((show Tryz.prog.globalNamed "hindcast/lex.signs" = some 3 by kernel_rfl).symm.trans hg)
  obtain rfl:=Option.some.inj ((show (Tryz.prog.globals[3]?).map (·.type)=some 216 by kernel_rfl).symm.trans ht)
  exact QI (ls:=signsL) Tryz.underlying216 Tryz.underlying9 uO rfl hg hvar hd
 ·obtain ⟨g, t, cs, fuel, p, hg, ht, hvar, hd⟩ := Xk (n := "hindcast/lex.escapes") (d := Rows.laid_hindcast_lex_escapes) hv (hm _ (by unfold laidX; simp))
  obtain rfl := Option.some.inj ((show Tryz.prog.globalNamed "hindcast/lex.escapes" = some 5 by kernel_rfl).symm.trans hg)
  obtain rfl:=Option.some.inj ((show (Tryz.prog.globals[5]?).map (·.type)=some 229 by kernel_rfl).symm.trans ht)
  obtain ⟨xs,m,-,ex,-,hl,hel⟩:=DataW.trod_array Tryz.underlying229 hd;have e1:=DataW.agg.inj (Prod.mk.inj ex).1;have h0:=hel 0 (by omega)
  have h1:=hel 1 (by omega)
  have h2:=hel 2 (by omega)
  rw [zcz] at h0 h1 h2
  match xs,hl with
  | [(_,p0),(_,p1),(_,p2)],_ =>
   simp only [List.map_cons,List.map_nil,List.cons.injEq,and_true] at e1;obtain ⟨rfl,rfl,rfl⟩:=e1;obtain ⟨q0,q1⟩:=uP h0;obtain ⟨q2,q3⟩:=uP h1;obtain ⟨q4,q5⟩:=uP h2;simp only [List.getElem?_take,List.getElem?_drop] at q0 q1 q2 q3 q4 q5;intro j hj;rw [World.var?_cell hg hvar j];have hc:j=0∨j=1∨j=2∨j=3∨j=4∨j=5:=by omega
   rcases hc with rfl | rfl | rfl | rfl | rfl | rfl
   ·simpa using q0
   ·simpa using q1
   ·simpa using q2
   ·simpa using q3
   ·simpa using q4
   ·simpa using q5
 ·obtain ⟨g, t, cs, fuel, p, hg, ht, hvar, hd⟩ := Xk (n := "strconv.ErrRange") (d := Rows.laid_strconv_ErrRange) hv (hm _ (by unfold laidX; simp))
  obtain rfl := Option.some.inj ((show Tryz.prog.globalNamed "strconv.ErrRange" = some 7 by kernel_rfl).symm.trans hg)
  obtain rfl:=Option.some.inj ((show (Tryz.prog.globals[7]?).map (·.type)=some 142 by kernel_rfl).symm.trans ht)
  obtain ⟨fuel',u,v,hcs,-⟩:=iface_of_trod Tryz.underlying142 hd;refine ⟨u,v,?_⟩;rw [World.var?_cell hg hvar 0]
  have:=congrArg (fun l=>l[0]?) hcs
  simpa using this
theorem zed:Tryz.prog.cellsOf 220=1:=by kernel_rfl
theorem zee:Tryz.prog.cellsOf 251=20:=by kernel_rfl
theorem zfr:(Rows.laid_internal_strconv_uint64pow10:DataW Unit)=Lib.tabData .u64 Lib.pow10Tab:=rfl
theorem zcA {W:World} {laid:List (String × DataW Unit)} (h:laidMet Tryz.prog laid W) (hm:∀x∈laidX,x∈laid):ZV W:=by
 refine ⟨zec h hm,?_⟩;obtain ⟨ps,hv,-⟩:=h;obtain ⟨g, t, cs, fuel, p, hg, ht, hvar, hd⟩ := Xk (n := "internal/strconv.uint64pow10") (d := Rows.laid_internal_strconv_uint64pow10) hv (hm _ (by unfold laidX; simp))
 obtain rfl := Option.some.inj ((show Tryz.prog.globalNamed "internal/strconv.uint64pow10" = some 8 by kernel_rfl).symm.trans hg)
 obtain rfl:=Option.some.inj ((show (Tryz.prog.globals[8]?).map (·.type)=some 251 by kernel_rfl).symm.trans ht)
 rw [zfr] at hd
 unfold Lib.TabIs
 rw [hvar,←Lib.cells_of_tab Tryz.underlying251 Tryz.underlying220 zed zee hd]
end Go.Proofs.YtpejpbbdgblbeaaGreatDoor

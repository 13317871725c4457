import Derived.Test.YtcphojjpapgblaaGreatDoorMC4
import Derived.Lib.Builder
import Derived.Lib.AppendStr
import Derived.Test.YtcphojjpapgblaaGreatDoorRows
import Derived.OpenShut
import Derived.LaidLaws
import Derived.Lay
import Derived.LaidOnce
import Derived.Lib.LaidTab
namespace Go.Proofs.YtcphojjpapgblaaGreatDoor
open Go.RowKit Go.Shelf
set_option maxHeartbeats 16000000
set_option maxRecDepth 100000
def ZC (w : World) : Prop := yH w ∧ Lib.TabIs Tryz.prog w "internal/strconv.uint64pow10" .u64 Lib.pow10Tab
theorem ZC.below {w w':World} {B:Nat} (h:ZC w) (hb:Below B w w') (hB:w.heap.size≤B):ZC w' :=
 ⟨h.1.below hb hB,Lib.tabBelow_of_tabIs h.2 w' (hb.mono hB)⟩
def xL (k n:Int) (s:List UInt8):List UInt8:=if k=2 then Lib.itoa n else if k=3 then Z7 s else s
theorem zaP (k n a b:Int) (s:List UInt8) (w:World) (hn0:-9223372036854775808≤n) (hn1:n≤9223372036854775807) (hl:s.length≤100000000) (ht:ZC w) :
  Calls Tryz.prog 143 #[.agg #[.int .i64 k,.string (zb s),.int .i64 n,.int .i64 a,.int .i64 b]] w fun e w'=>e=.returned (.string (zb (xL k n s)))∧Below w.heap.size w w':=by
 obtain ⟨w1,h⟩:∃w1,w1=w.alloc (.cells #[.int .i64 k,.string (zb s),.int .i64 n,.int .i64 a,.int .i64 b] 65):=⟨_,rfl⟩;have y:Below w.heap.size w w1:=by rw [h];exact (Below.refl _ w).alloc (Nat.le_refl _) _
 have J:Hid (ZC w1):=ht.below y (Nat.le_refl _);have z:Hid (Below w.heap.size w w1):=y;have G:=y.size;clear ht y
 by_cases h2:k=2
 ·have I:Hid (xL k n s=Lib.itoa n):=if_pos h2
  have c1:=Tryz.strconv_Itoa n hn0 hn1 w1 J.out.2;rw [h] at c1;subst h2
  go_enter Tryz.func143,Tryz.ntmps143
  go_wp2_with fail
  refine c1.mono ?_;clear c1;rintro e H ⟨rfl,q,O,A⟩
  have o:Hid (Below w.heap.size w H):=by
   show Below w.heap.size w H
   rw [←h] at A;rw [A];exact z.out.trans (Lib.below_grow w.heap.size w1 G q O)
  clear A h;go_wp2
  go_ret
  rw [I.out];exact ⟨rfl,o.out⟩
 ·have N:(k==2)=false:=by rw [beq_eq_false_iff_ne];exact h2
  by_cases h3:k=3
  ·have I:Hid (xL k n s=Z7 s):=show _=_ by unfold xL;rw [if_neg h2,if_pos h3]
   have c1:=zb0 s w1 hl J.out.1;rw [h] at c1;subst h3
   go_enter Tryz.func143,Tryz.ntmps143
   go_wp2_with fail
   refine c1.mono ?_;clear c1;rintro e H ⟨rfl,D⟩
   have o:Hid (Below w.heap.size w H):=by
    show Below w.heap.size w H
    rw [←h] at D;exact z.out.trans (D.mono G)
   clear D h;go_wp2
   go_ret
   rw [I.out];exact ⟨rfl,o.out⟩
  ·have L:(k==3)=false:=by rw [beq_eq_false_iff_ne];exact h3
   have I:Hid (xL k n s=s):=show _=_ by unfold xL;rw [if_neg h2,if_neg h3]
   have o:Hid (Below w.heap.size w (w.alloc (.cells #[.int .i64 k,.string (zb s),.int .i64 n,.int .i64 a,.int .i64 b] 65))):=by rw [←h];exact z.out
   clear h
   go_enter Tryz.func143,Tryz.ntmps143
   go_wp2
   go_ret
   rw [I.out];exact ⟨rfl,o.out⟩
def yr (k n:Int) (s:List UInt8):Prop:=(Zb (xL k n s)).e=0∧((Zb (xL k n s)).k:Int)=k∧(Zb (xL k n s)).s=s∧((Zb (xL k n s)).n:Int)=n
instance (k n:Int) (s:List UInt8):Decidable (yr k n s):=by unfold yr;infer_instance
def tkB (k n:Int) (s:List UInt8):List UInt8 × Nat:=if yr k n s then (xL k n s,0) else ([],2)
theorem zdf (k n:Int) (s:List UInt8) (hn0:-9223372036854775808≤n) (hn1:n≤9223372036854775807):(xL k n s).length≤2*s.length+30:=by
 have o:∀u:Nat,u≤9223372036854775808→(Lib.decDigits u).length≤20:=fun u hu=>by
  rw [Lib.decDigits_length];rcases Nat.lt_or_ge (Lib.nDigits u) 21 with h | h
  ·omega
  ·exfalso
   have A:=Lib.nDigits_pos u
   have:∀(j u:Nat),j+1≤Lib.nDigits u→10 ^ j≤u∨j=0:=by
    intro j
    induction j with
    | zero=>intro u _;exact .inr rfl
    | succ j ih =>
     intro u z
     by_cases hu:u<10
     ·rw [Lib.nDigits_small hu] at z;omega
     ·rw [Lib.nDigits_big hu] at z
      left
      rcases ih (u / 10) (by omega) with y | y
      ·rw [Nat.pow_succ];omega
      ·subst y;omega
   rcases this 19 u (by omega) with y | y
   ·have:(10:Nat) ^ 19=10000000000000000000:=by decide
    omega
   ·omega
 unfold xL
 split
 ·unfold Lib.itoa
  split
  ·have:=o n.natAbs (by omega)
   rw [List.length_cons];omega
  ·have:=o n.toNat (by omega)
   omega
 ·split
  ·unfold Z7
   have:=zaL s
   rw [List.length_cons,List.length_append,List.length_singleton];omega
  ·omega
theorem zaQ (k n a b:Int) (s:List UInt8) (w:World) (hn0:-9223372036854775808≤n) (hn1:n≤9223372036854775807) (hl:s.length≤100000000) (ht:ZC w) :
  Calls Tryz.prog 119 #[.agg #[.int .i64 k,.string (zb s),.int .i64 n,.int .i64 a,.int .i64 b]] w fun e w'=>e=.returned (.tuple #[.string (zb (tkB k n s).1),.int .i64 (tkB k n s).2])∧Below w.heap.size w w':=by
 obtain ⟨w1,D⟩:∃w1,w1=w.alloc (.cells #[.int .i64 k,.string (zb s),.int .i64 n,.int .i64 0,.int .i64 0] 65):=⟨_,rfl⟩;have Q:Below w.heap.size w w1:=by rw [D];exact (Below.refl _ w).alloc (Nat.le_refl _) _
 have Y:w1.heap.size=w.heap.size+1:=by rw [D];simp
 have N:w1.heap[w.heap.size]?=some (.cells #[.int .i64 k,.string (zb s),.int .i64 n,.int .i64 0,.int .i64 0] 65 (0,0)):=by rw [D];exact World.alloc_heap_new w _
 have HT:Hid (ZC w1):=ht.below Q (Nat.le_refl _);have ad:Hid (Below w.heap.size w w1):=Q;have c1:=zaP k n 0 0 s w1 hn0 hn1 hl HT.out;have ae:=zdf k n s hn0 hn1;have G:Hid (tkB k n s=if yr k n s then (xL k n s,0) else ([],2)):=rfl
 have A:Hid (yr k n s↔(Zb (xL k n s)).e=0∧((Zb (xL k n s)).k:Int)=k∧(Zb (xL k n s)).s=s∧((Zb (xL k n s)).n:Int)=n):=Iff.rfl;obtain ⟨x,hx⟩:∃x,x=xL k n s:=⟨_,rfl⟩;rw [←hx] at c1 ae G A;obtain ⟨R,hR⟩:∃R,R=Zb x:=⟨_,rfl⟩;rw [←hR] at A;have c2:=fun wx (h:yH wx)=>qX x wx (by omega) h
 rw [←hR] at c2
 unfold yi at c2
 have T:=fun wx=>Qa x wx (by omega)
 clear ht Q hx hR;rw [D] at c1
 go_enter Tryz.func119,Tryz.ntmps119
 go_wp2_with fail
 refine c1.mono ?_;clear c1;rw [←D];rintro e Z ⟨rfl,H⟩;have V:=HT.out.below H (Nat.le_refl _);have I:=(H.block w.heap.size (by omega)).trans N
 have ab:Hid (Below w.heap.size w Z):=ad.out.trans (H.mono (by omega))
 have aa:w.heap.size+1≤Z.heap.size:=by rw [←Y];exact H.size
 have W:=c2 Z V.1;clear H c2 D N V;go_wp2_with fail
 refine W.mono ?_;clear W;rintro e O ⟨rfl,L⟩;have y:=(L.block w.heap.size (by omega)).trans I
 have J:Hid (Below w.heap.size w O):=ab.out.trans (L.mono (by omega))
 have aj:w.heap.size+1≤O.heap.size:=Nat.le_trans aa L.size;have q0:∀o,(O.alloc o).cell? ⟨w.heap.size,0,none⟩=some (.int .i64 k):=fun o=>Lib.cell?_alloc_some o (by rw [cell_of_row _ _ _ _ _ _ y];rfl)
 have q1:∀o,(O.alloc o).cell? ⟨w.heap.size,1,none⟩=some (.string (zb s)):=fun o=>Lib.cell?_alloc_some o (by rw [cell_of_row _ _ _ _ _ _ y];rfl)
 have q2:∀o,(O.alloc o).cell? ⟨w.heap.size,2,none⟩=some (.int .i64 n):=fun o=>Lib.cell?_alloc_some o (by rw [cell_of_row _ _ _ _ _ _ y];rfl)
 have q3:∀o,(O.alloc o).cell? ⟨w.heap.size,3,none⟩=some (.int .i64 0):=fun o=>Lib.cell?_alloc_some o (by rw [cell_of_row _ _ _ _ _ _ y];rfl)
 have q4:∀o,(O.alloc o).cell? ⟨w.heap.size,4,none⟩=some (.int .i64 0):=fun o=>Lib.cell?_alloc_some o (by rw [cell_of_row _ _ _ _ _ _ y];rfl)
 clear L I y
 by_cases he:R.e=0
 ·rw [he]
  by_cases hk:(R.k:Int)=k
  ·by_cases hs:R.s=s
   ·by_cases hn:(R.n:Int)=n
    ·have z:Hid (tkB k n s=(x,0)):=G.out.trans (if_pos (A.out.2 ⟨he,hk,hs,hn⟩))
     rw [hk,hs,hn];have U:=T (O.alloc (.cells #[.int .i64 k,.string (zb s),.int .i64 n,.int .i64 0,.int .i64 0] 65));go_wp2_with fail
     refine U.mono ?_;clear U T;rintro e w4 ⟨rfl,X⟩;have af:Hid (Below w.heap.size w w4):=(J.out.alloc (by omega) _).trans (X.mono (by simp;omega))
     clear X;go_wp2
     go_ret2
     rw [z.out];exact ⟨rfl,af.out⟩
    ·have z:Hid (tkB k n s=([],2)):=G.out.trans (if_neg (fun h=>hn (A.out.1 h).2.2.2))
     have ak:((R.n:Int)==n)=false:=by rw [beq_eq_false_iff_ne];exact hn
     rw [hk,hs];clear T;go_wp2
     go_ret2
     rw [z.out];exact ⟨rfl,J.out.alloc (by omega) _⟩
   ·have z:Hid (tkB k n s=([],2)):=G.out.trans (if_neg (fun h=>hs (A.out.1 h).2.2.1))
    have ag:(R.s==s)=false:=by rw [ziQ];exact decide_eq_false hs
    rw [hk];clear T;go_wp2
    go_ret2
    rw [z.out];exact ⟨rfl,J.out.alloc (by omega) _⟩
  ·have z:Hid (tkB k n s=([],2)):=G.out.trans (if_neg (fun h=>hk (A.out.1 h).2.1))
   have ai:((R.k:Int)==k)=false:=by rw [beq_eq_false_iff_ne];exact hk
   clear T;go_wp2
   go_ret2
   rw [z.out];exact ⟨rfl,J.out.alloc (by omega) _⟩
 ·have z:Hid (tkB k n s=([],2)):=G.out.trans (if_neg (fun h=>he (A.out.1 h).1))
  have ah:((R.e:Int) != 0)=true:=by rw [bne_iff_ne];omega
  clear T;go_wp2
  go_ret2
  rw [z.out];exact ⟨rfl,J.out.alloc (by omega) _⟩
theorem uZ (B:Nat) (ty:TypeId) (v:Value) (us bs:List UInt8) (w:World) (hown:w.ownsRow B 5 1 v us.length (Lib.byteCells us)) (hb:us.length+bs.length≤140737488355328) (hB:B≤w.heap.size) :
  ∃H w',(Builtin.append_ #[119,9] ty #[v,.string (zb bs)]).run Tryz.prog w=.ok H w'∧w'.ownsRow B 5 1 H (us++bs).length (Lib.byteCells (us++bs))∧w.grownBy w' v.ownBlock∧(H.ownBlock=v.ownBlock∨∀k,H.ownBlock=some k→w.heap.size≤k):=by
 obtain ⟨J,N,A,o,z⟩:=info_parts zc6;have D:(zb bs).size=bs.length:=Zd bs;obtain ⟨H,w',L,U,Z,-⟩:=Lib.run_append_own_string (P:=Tryz.prog) w B 119 9 ty 5 J Tryz.underlying119 Tryz.underlying9 N A o z v us.length _ hown (zb bs) (by rw [D];unfold maxLen;omega) (by omega) hB
 refine ⟨H,w',L,?_,Z,?_⟩
 ·rw [List.length_append,Lib.byteCells_append]
  rw [D] at U;exact U
 ·rcases hown.2 with ⟨rfl,Y⟩ | ⟨g,y,Q,rfl,ab,T,X,V,W,R⟩
  ·right
   have G:w.ownsRow w.heap.size 5 1 (.slice none 0 0) us.length (Lib.byteCells us):=⟨hown.1,.inl ⟨rfl,Y⟩⟩;obtain ⟨v2,w2,h,O,-,-⟩:=Lib.run_append_own_string (P:=Tryz.prog) w w.heap.size 119 9 ty 5 J Tryz.underlying119 Tryz.underlying9 N A o z _ us.length _ G (zb bs) (by rw [D];unfold maxLen;omega) (by omega) (Nat.le_refl _)
   have e:=L.symm.trans h;simp only [Result.ok.injEq] at e;intro k I;rw [e.1] at I;exact (O.lt k I).1
  ·by_cases hroom:us.length+(zb bs).size≤y
   ·left
    have h:=Lib.run_append_room_string (P:=Tryz.prog) w 119 9 ty 5 J Tryz.underlying119 Tryz.underlying9 N o g us.length y Q T (zb bs) hroom (by omega)
    have e:=L.symm.trans h;simp only [Result.ok.injEq] at e;rw [e.1];rfl
   ·right
    have aa:(Lib.byteCells us).length=us.length:=by simpa using hown.1
    have h:=Lib.run_append_grow_string (P:=Tryz.prog) w 119 9 ty 5 J (.int .u8 0) Tryz.underlying119 Tryz.underlying9 N A ⟨g,0,none⟩ us.length y (Lib.byteCells us) (by rw [o];omega) (hown.cells (g:=g) rfl) (zb bs) (by omega) (by omega) (by rw [z];exact growslice_fits (by omega) (by omega))
    have e:=L.symm.trans h;simp only [Result.ok.injEq] at e;intro k I;rw [e.1] at I
    simp [Value.ownBlock] at I
    omega
theorem zaR {ops:Array Oper} {rest:List Oper} {o:Oper} {a:Act} {w:World} {Q:Exit→Act→World→Prop} (hgd:o.guard=none) (s x:Operand)
  (ho:o.op=.call { callee:=.builtin .append,args:=#[s,x],argTypes:=#[119,9] })
  (B:Nat) (v:Value) (us:List UInt8) (hs:a.eval s=v) (hown:w.ownsRow B 5 1 v us.length (Lib.byteCells us)) (bs:List UInt8) (hx:a.eval x=.string (zb bs))
  (hb:us.length+bs.length≤140737488355328) (hB:B≤w.heap.size)
  (h:∀y w',w'.ownsRow B 5 1 y (us++bs).length (Lib.byteCells (us++bs))→w.grownBy w' v.ownBlock→(y.ownBlock=v.ownBlock∨∀k,y.ownBlock=some k→w.heap.size≤k)→wpList Tryz.prog ops Q rest (a.put o.dst y) w'):wpList Tryz.prog ops Q (o::rest) a w:=by
 refine wpList_plain hgd fun K hK=>?_
 obtain ⟨y,w',D,z,G,A⟩:=uZ B o.type v us bs w hown hb hB
 unfold Oper.wp execOp
 simp only [ho,resolve,invoke,builtin,Sem.run_bind,Sem.run_pure,Result.andThen_ok,List.map_toArray,List.map_cons,List.map_nil,hs,hx,D];exact hK _ _ (h y w' z G A)
structure xr (r:Nat) (q:Option Nat) (l:List UInt8) (lo:Bool) (w:World):Prop where
 has:∃p v,w.heap[r]?=some (.cells #[p,v,.bool lo] 123 (0,0))∧(p=.pointer none∨p=.pointer (some ⟨r,0,none⟩))∧w.ownsRow 0 5 1 v l.length (Lib.byteCells l)∧v.ownBlock=q
 other:q≠some r
structure zT (r:Nat) (q:Option Nat) (w:World) (q':Option Nat) (w':World):Prop where
 os:w'.os=w.os
 tape:w'.tape=w.tape
 output:w'.output=w.output
 size:w.heap.size≤w'.heap.size
 block:∀k,k<w.heap.size→k≠r→q≠some k→w'.heap[k]?=w.heap[k]?
 row:q'=q∨∀k,q'=some k→w.heap.size≤k
theorem zT.refl (r:Nat) (q:Option Nat) (w:World):zT r q w q w:=⟨rfl,rfl,rfl,Nat.le_refl _,fun _ _ _ _=>rfl,.inl rfl⟩
theorem zT.trans {r:Nat} {q q1 q2:Option Nat} {w w1 w2:World} (h:zT r q w q1 w1) (h2:zT r q1 w1 q2 w2):zT r q w q2 w2:=by
 refine ⟨h2.os.trans h.os,h2.tape.trans h.tape,h2.output.trans h.output,Nat.le_trans h.size h2.size,fun k hk hr hq=>?_,?_⟩
 ·refine (h2.block k (Nat.lt_of_lt_of_le hk h.size) hr fun e=>?_).trans (h.block k hk hr hq)
  rcases h.row with o | o
  ·exact hq (o ▸ e)
  ·have:=o k e;omega
 ·rcases h2.row with e | e
  ·rw [e];exact h.row
  ·exact .inr fun k hk=>Nat.le_trans h.size (e k hk)
theorem zT.alloc {r:Nat} {q q':Option Nat} {w w':World} (h:zT r q w q' w') (ob:Obj):zT r q w q' (w'.alloc ob) :=
 ⟨h.os,h.tape,h.output,by have:=h.size;simp;omega,fun k hk hr hq=>(Below.heap_alloc _ _ _ (Nat.lt_of_lt_of_le hk h.size)).trans (h.block k hk hr hq),h.row⟩
theorem zT.below {r:Nat} {q:Option Nat} {w w':World} (h:Below w.heap.size w w'):zT r q w q w':=⟨h.os,h.tape,h.output,h.size,fun k hk _ _=>h.block k hk,.inl rfl⟩
theorem zT.set {r P j:Nat} {q q':Option Nat} {w w':World} (h:zT r q w q' w') (hP:w.heap.size≤P) (v:Value):zT r q w q' (w'.setCell ⟨P,j,none⟩ v) :=
 ⟨h.os,h.tape,h.output,by have:=h.size;simpa using this,fun k hk hr hq=>(Below.heap_setCell _ _ _ _ (by simp;omega)).trans (h.block k hk hr hq),h.row⟩
theorem xr.lt {r:Nat} {q:Option Nat} {l:List UInt8} {lo:Bool} {w:World} (h:xr r q l lo w):r<w.heap.size∧∀k,q=some k→k<w.heap.size:=by
 obtain ⟨⟨p,v,y,-,o,rfl⟩,-⟩:=h;exact ⟨(Array.getElem?_eq_some_iff.1 y).1,fun k hk=>(o.lt k hk).2⟩
theorem xr.keep {r:Nat} {q:Option Nat} {l:List UInt8} {lo:Bool} {w w':World} (h:xr r q l lo w) (hr:w'.heap[r]?=w.heap[r]?) (hq:∀k,q=some k→w'.heap[k]?=w.heap[k]?):xr r q l lo w':=by
 obtain ⟨⟨p,v,D,I,A,rfl⟩,z⟩:=h;refine ⟨⟨p,v,hr.trans D,I,⟨A.1,?_⟩,rfl⟩,z⟩;rcases A.2 with H | ⟨g,y,o,rfl,G,L,J⟩
 ·exact .inl H
 ·exact .inr ⟨g,y,o,rfl,G,(hq g rfl).trans L,J⟩
theorem xr.alloc {r:Nat} {q:Option Nat} {l:List UInt8} {lo:Bool} {w:World} (h:xr r q l lo w) (ob:Obj):xr r q l lo (w.alloc ob) :=
 h.keep (Below.heap_alloc _ _ _ h.lt.1) fun k hk=>Below.heap_alloc _ _ _ (h.lt.2 k hk)
theorem xr.below {r:Nat} {q:Option Nat} {l:List UInt8} {lo:Bool} {w w':World} (h:xr r q l lo w) (hb:Below w.heap.size w w'):xr r q l lo w' :=
 h.keep (hb.block _ h.lt.1) fun k hk=>hb.block _ (h.lt.2 k hk)
theorem VE:(Tryz.prog.info? 121).map (·.size)=some 2:=by kernel_rfl
theorem QW:liesAt Tryz.prog Tryz.prog.depth 123 (3 / Tryz.prog.cellsOf 123) 0 121 1=true:=by kernel_rfl
theorem zb8 (r:Nat) (w:World) (h0:w.cell? ⟨r,0,none⟩=some (.pointer (some ⟨r,0,none⟩))) :
  Calls Tryz.prog 144 #[.pointer (some ⟨r,0,none⟩)] w fun e w'=>e=.returned (.tuple #[])∧w'=w:=by
 obtain ⟨j,h,_⟩:=Option.map_eq_some_iff.1 VE
 go_enter Tryz.func144,Tryz.ntmps144
 go_wp2
 rw [Lib.run_neq_ptr_same w _ Tryz.underlying118 h];go_wp2
 go_end0
 exact ⟨rfl,rfl⟩
theorem zaS (r:Nat) (w:World) (h0:w.cell? ⟨r,0,none⟩=some (.pointer none)) (hsh:w.shape? r=some (123,3)) (hfz:w.frozen? ⟨r,0,none⟩=false) :
  Calls Tryz.prog 144 #[.pointer (some ⟨r,0,none⟩)] w fun e w'=>e=.returned (.tuple #[])∧w'=w.setCell ⟨r,0,none⟩ (.pointer (some ⟨r,0,none⟩)):=by
 obtain ⟨j,o,h⟩:=Option.map_eq_some_iff.1 VE
 go_enter Tryz.func144,Tryz.ntmps144
 go_wp2
 rw [Lib.run_to_unsafe w ⟨r,0,none⟩ Tryz.underlying118 Tryz.underlying173 o (by rw [h];decide) hsh (Nat.zero_lt_succ 2)]
 simp only [Result.andThen];rw [Oper.upon_value];go_wp2
 rw [run_callFunc_extern Tryz.func177 (by kernel_rfl) (by kernel_rfl) (by kernel_rfl) (e:=Extern.AbiNoEscape.same) (by kernel_rfl)]
 rw [Lib.run_noEscape];simp only [Result.andThen];rw [Oper.upon_value];go_wp2
 rw [Lib.run_from_unsafe w ⟨r,0,none⟩ Tryz.underlying173 Tryz.underlying118 o hsh QW];simp only [Result.andThen];rw [Oper.upon_value];go_wp2
 go_end0
 exact ⟨rfl,rfl⟩
end Go.Proofs.YtcphojjpapgblaaGreatDoor
namespace Go.Proofs.YtcphojjpapgblaaGreatDoor
open Go.ChangeShapes Go.WideShapes Go.RowKit
set_option maxHeartbeats 16000000
set_option maxRecDepth 100000
theorem QX (a:ByteArray):zb a.data.toList=a:=by
 apply ByteArray.ext
 unfold zb
 simp
theorem xt {P:Program} {w:World} {n:String} {d:DataW Unit}:∀{laid:List (String × DataW Unit)} {ps:List MemPlace},DataW.LaidVars P w laid ps→(n,d)∈laid →
  ∃g t cs fuel p,P.globalNamed n=some g∧(P.globals[g]?).map (·.type)=some t∧w.var? P n=some cs∧DataW.trod (fun _=>()) P w 0 (fun _=>true) false fuel t cs.toList=some (d,p)
 | [],_,_,h=>by cases h
 | (_,_)::_,_,⟨g,t,cs,fuel,p,_,hg,ht,hv,hd,hr,_⟩,h=>by
  rcases List.mem_cons.1 h with e | e
  ·cases e;exact ⟨g,t,cs,fuel,p,hg,ht,hv,hd⟩
  ·exact xt hr e
theorem Qc {P:Program} {w:World} {nm:String} {g n:Nat} {t e:TypeId} {ls:List (List UInt8)} {cs:Array Value} {fuel:Nat} {p:List MemPlace}
  (hu:P.underlying t=some (.array n e)) (hs:P.underlying e=some .string) (hc:P.cellsOf e=1) (hn:n=ls.length) (hg:P.globalNamed nm=some g) (hv:w.var? P nm=some cs)
  (hd:DataW.trod (fun _=>()) P w 0 (fun _=>true) false fuel t cs.toList=some (.agg (ls.map fun l=>.lit (.string l)),p)) :
  ∀j (h:j<ls.length),w.cell? ⟨g,j,none⟩=some (.string (zb ls[j])):=by
 intro j h;obtain ⟨I,m,-,L,-,O,y⟩:=DataW.trod_array hu hd;have J:=DataW.agg.inj (Prod.mk.inj L).1;have G:=y j (by omega)
 rw [hc,Nat.mul_one] at G;have o:j<I.length:=by omega
 rw [List.getElem?_eq_getElem o] at G;obtain ⟨s,z,D,-⟩:=DataW.trod_string hs G;have A:(ls.map fun l=>(DataW.lit (.string l):DataW Unit))[j]?=(I.map (·.1))[j]?:=by rw [J]
 rw [List.getElem?_map,List.getElem?_map,List.getElem?_eq_getElem h,List.getElem?_eq_getElem o,D] at A;simp only [Option.map_some,Option.some.injEq,DataW.lit.injEq,Lit.string.injEq] at A
 have N:s=zb ls[j]:=by
  apply ByteArray.ext
  rw [A]
 rw [World.var?_cell hg hv j,←N]
 have H:(cs.toList.drop j)[0]?=some (.string s):=by
  have:=congrArg (fun l=>l[0]?) z
  simpa [List.getElem?_take] using this
 rw [List.getElem?_drop] at H
 simpa using H
theorem zaT:∃f0 f1:Field,Tryz.prog.underlying 227=some (.struct #[f0,f1])∧f0.type=5∧f1.type=5∧f0.offset=0∧f1.offset=1:=⟨_,_,Tryz.underlying227,rfl,rfl,rfl,rfl⟩
theorem Qd:Tryz.prog.cellsOf 5=1:=by kernel_rfl
theorem zb9:Tryz.prog.cellsOf 227=2:=by kernel_rfl
theorem V6:Tryz.prog.cellsOf 9=1:=by kernel_rfl
theorem V7 {w:World} {m:Nat} {cs:List Value} {a b:Int} {p:List MemPlace}
  (h:DataW.trod (fun _=>()) Tryz.prog w 0 (fun _=>true) false m 227 cs=some (.agg [.lit (.int .u8 a),.lit (.int .u8 b)],p)):cs[0]?=some (.int .u8 a)∧cs[1]?=some (.int .u8 b):=by
 obtain ⟨J,T,U,H,W,Q,I⟩:=zaT;obtain ⟨L,n,-,N,-,R,o⟩:=DataW.trod_struct U h;have y:=DataW.agg.inj (Prod.mk.inj N).1;have G:=o 0 J rfl;have D:=o 1 T rfl;rw [H,Q,Qd] at G;rw [W,I,Qd] at D
 match L,R with
 | [x0,x1],_ =>
  simp only [List.map_cons,List.map_nil,List.cons.injEq,and_true] at y;obtain ⟨Z,O,X,-⟩:=DataW.trod_int Tryz.underlying5 G;obtain ⟨z1,V,Y,-⟩:=DataW.trod_int Tryz.underlying5 D;rw [X,Y] at y;simp only [DataW.lit.injEq,Lit.int.injEq,true_and] at y;obtain ⟨rfl,rfl⟩:=y;have z:=congrArg (fun l=>l[0]?) O
  have A:=congrArg (fun l=>l[0]?) V
  simp only [List.getElem?_take,List.getElem?_drop] at z A;exact ⟨by simpa using z,by simpa using A⟩
def laidX : List (String × DataW Unit) := [("hindcast/lex.words", Rows.laid_hindcast_lex_words), ("hindcast/lex.signs", Rows.laid_hindcast_lex_signs), ("hindcast/lex.escapes", Rows.laid_hindcast_lex_escapes), ("strconv.ErrRange", Rows.laid_strconv_ErrRange), ("internal/strconv.uint64pow10", Rows.laid_internal_strconv_uint64pow10)]
theorem zdY {W:World} {laid:List (String × DataW Unit)} (h:laidMet Tryz.prog laid W) (hm:∀x∈laidX,x∈laid):yH W:=by
 obtain ⟨ps,D,-⟩:=h;refine ⟨?_,?_,?_,?_⟩
 ·obtain ⟨g, t, H, fuel, p, y, A, o, hd⟩ := xt (n := "hindcast/lex.words") (d := Rows.laid_hindcast_lex_words) D (hm _ (by unfold laidX; simp))
  obtain rfl := Option.some.inj ((show Tryz.prog.globalNamed "hindcast/lex.words" = some 4 by kernel_rfl).symm.trans y)
  obtain rfl:=Option.some.inj ((show (Tryz.prog.globals[4]?).map (·.type)=some 225 by kernel_rfl).symm.trans A)
  exact Qc (ls:=wordsL) Tryz.underlying225 Tryz.underlying9 V6 rfl y o hd
 ·obtain ⟨g, t, H, fuel, p, y, A, o, hd⟩ := xt (n := "hindcast/lex.signs") (d := Rows.laid_hindcast_lex_signs) D (hm _ (by unfold laidX; simp))
  obtain rfl := Option.some.inj ((show Tryz.prog.globalNamed "hindcast/lex.signs" = some 3 by kernel_rfl).symm.trans y)
  obtain rfl:=Option.some.inj ((show (Tryz.prog.globals[3]?).map (·.type)=some 215 by kernel_rfl).symm.trans A)
  exact Qc (ls:=signsL) Tryz.underlying215 Tryz.underlying9 V6 rfl y o hd
 ·obtain ⟨g, t, H, fuel, p, y, A, o, hd⟩ := xt (n := "hindcast/lex.escapes") (d := Rows.laid_hindcast_lex_escapes) D (hm _ (by unfold laidX; simp))
  obtain rfl := Option.some.inj ((show Tryz.prog.globalNamed "hindcast/lex.escapes" = some 5 by kernel_rfl).symm.trans y)
  obtain rfl:=Option.some.inj ((show (Tryz.prog.globals[5]?).map (·.type)=some 228 by kernel_rfl).symm.trans A)
  obtain ⟨X,m,-,ex,-,Y,z⟩:=DataW.trod_array Tryz.underlying228 hd;have R:=DataW.agg.inj (Prod.mk.inj ex).1;have U:=z 0 (by omega)
  have Q:=z 1 (by omega)
  have I:=z 2 (by omega)
  rw [zb9] at U Q I
  match X,Y with
  | [(_,p0),(_,p1),(_,p2)],_ =>
   simp only [List.map_cons,List.map_nil,List.cons.injEq,and_true] at R;obtain ⟨rfl,rfl,rfl⟩:=R;obtain ⟨N,O⟩:=V7 U;obtain ⟨V,L⟩:=V7 Q;obtain ⟨T,J⟩:=V7 I;simp only [List.getElem?_take,List.getElem?_drop] at N O V L T J;intro j hj;rw [World.var?_cell y o j];have Z:j=0∨j=1∨j=2∨j=3∨j=4∨j=5:=by omega
   rcases Z with rfl | rfl | rfl | rfl | rfl | rfl
   ·simpa using N
   ·simpa using O
   ·simpa using V
   ·simpa using L
   ·simpa using T
   ·simpa using J
 ·obtain ⟨g, t, H, fuel, p, y, A, o, hd⟩ := xt (n := "strconv.ErrRange") (d := Rows.laid_strconv_ErrRange) D (hm _ (by unfold laidX; simp))
  obtain rfl := Option.some.inj ((show Tryz.prog.globalNamed "strconv.ErrRange" = some 7 by kernel_rfl).symm.trans y)
  obtain rfl:=Option.some.inj ((show (Tryz.prog.globals[7]?).map (·.type)=some 141 by kernel_rfl).symm.trans A)
  obtain ⟨fuel',u,v,G,-⟩:=iface_of_trod Tryz.underlying141 hd;refine ⟨u,v,?_⟩;rw [World.var?_cell y o 0]
  have:=congrArg (fun l=>l[0]?) G
  simpa using this
theorem zdZ:Tryz.prog.cellsOf 219=1:=by kernel_rfl
theorem zd0:Tryz.prog.cellsOf 250=20:=by kernel_rfl
theorem zfb:(Rows.laid_internal_strconv_uint64pow10:DataW Unit)=Lib.tabData .u64 Lib.pow10Tab:=rfl
theorem zca {W:World} {laid:List (String × DataW Unit)} (h:laidMet Tryz.prog laid W) (hm:∀x∈laidX,x∈laid):ZC W:=by
 refine ⟨zdY h hm,?_⟩;obtain ⟨G,z,-⟩:=h;obtain ⟨g, t, D, fuel, p, A, y, o, hd⟩ := xt (n := "internal/strconv.uint64pow10") (d := Rows.laid_internal_strconv_uint64pow10) z (hm _ (by unfold laidX; simp))
 obtain rfl := Option.some.inj ((show Tryz.prog.globalNamed "internal/strconv.uint64pow10" = some 8 by kernel_rfl).symm.trans A)
 obtain rfl:=Option.some.inj ((show (Tryz.prog.globals[8]?).map (·.type)=some 250 by kernel_rfl).symm.trans y)
 rw [zfb] at hd
 unfold Lib.TabIs
 rw [o,←Lib.cells_of_tab Tryz.underlying250 Tryz.underlying219 zdZ zd0 hd]
end Go.Proofs.YtcphojjpapgblaaGreatDoor

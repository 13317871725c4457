import Derived.Test.YtbjndgachcdbcaaGreatDoorMC5
import Derived.Maps.AppendAt
namespace Go.Proofs.YtbjndgachcdbcaaGreatDoor
open Go.RowKit Go.Shelf
set_option maxHeartbeats 16000000
set_option maxRecDepth 100000
def zQ (w : World) : Prop := z7 w ∧ Lib.TabIs Tryz.prog w "internal/strconv.uint64pow10" .u64 Lib.pow10Tab
theorem zQ.below {w w':World} {B:Nat} (h:zQ w) (hb:Below B w w') (hB:w.heap.size≤B):zQ w' :=
 ⟨h.1.below hb hB,Lib.tabBelow_of_tabIs h.2 w' (hb.mono hB)⟩
def Ye (k n:Int) (s:List UInt8):List UInt8:=if k=2 then Lib.itoa n else if k=3 then yx s else s
theorem xG (k n a b:Int) (s:List UInt8) (w:World) (hn0:-9223372036854775808≤n) (hn1:n≤9223372036854775807) (hl:s.length≤100000000) (ht:zQ w) :
  Calls Tryz.prog 52 #[.agg #[.int .i64 k,.string (za s),.int .i64 n,.int .i64 a,.int .i64 b]] w fun e w'=>e=.returned (.string (za (Ye k n s)))∧Below w.heap.size w w':=by
 obtain ⟨w1,c⟩:∃w1,w1=w.alloc (.cells #[.int .i64 k,.string (za s),.int .i64 n,.int .i64 a,.int .i64 b] 103):=⟨_,rfl⟩;have m:Below w.heap.size w w1:=by rw [c];exact (Below.refl _ w).alloc (Nat.le_refl _) _
 have D:Hid (zQ w1):=ht.below m (Nat.le_refl _);have o:Hid (Below w.heap.size w w1):=m;have z:=m.size;clear ht m
 by_cases h2:k=2
 ·have B:Hid (Ye k n s=Lib.itoa n):=if_pos h2
  have x:=Tryz.strconv_Itoa n hn0 hn1 w1 D.out.2;rw [c] at x;subst h2
  go_enter Tryz.func52,Tryz.ntmps52
  go_wp2_with fail
  refine x.mono ?_;clear x;rintro e A ⟨rfl,q,os,y⟩
  have h:Hid (Below w.heap.size w A):=by
   show Below w.heap.size w A
   rw [←c] at y;rw [y];exact o.out.trans (Lib.below_grow w.heap.size w1 z q os)
  clear y c;go_wp2
  go_ret
  rw [B.out];exact ⟨rfl,h.out⟩
 ·have F:(k==2)=false:=by rw [beq_eq_false_iff_ne];exact h2
  by_cases h3:k=3
  ·have B:Hid (Ye k n s=yx s):=show _=_ by unfold Ye;rw [if_neg h2,if_pos h3]
   have x:=Xp s w1 hl D.out.1;rw [c] at x;subst h3
   go_enter Tryz.func52,Tryz.ntmps52
   go_wp2_with fail
   refine x.mono ?_;clear x;rintro e A ⟨rfl,u⟩
   have h:Hid (Below w.heap.size w A):=by
    show Below w.heap.size w A
    rw [←c] at u;exact o.out.trans (u.mono z)
   clear u c;go_wp2
   go_ret
   rw [B.out];exact ⟨rfl,h.out⟩
  ·have E:(k==3)=false:=by rw [beq_eq_false_iff_ne];exact h3
   have B:Hid (Ye k n s=s):=show _=_ by unfold Ye;rw [if_neg h2,if_neg h3]
   have h:Hid (Below w.heap.size w (w.alloc (.cells #[.int .i64 k,.string (za s),.int .i64 n,.int .i64 a,.int .i64 b] 103))):=by rw [←c];exact o.out
   clear c
   go_enter Tryz.func52,Tryz.ntmps52
   go_wp2
   go_ret
   rw [B.out];exact ⟨rfl,h.out⟩
def ZG (k n:Int) (s:List UInt8):Prop:=(Z8 (Ye k n s)).e=0∧((Z8 (Ye k n s)).k:Int)=k∧(Z8 (Ye k n s)).s=s∧((Z8 (Ye k n s)).n:Int)=n
instance (k n:Int) (s:List UInt8):Decidable (ZG k n s):=by unfold ZG;infer_instance
def xH (k n:Int) (s:List UInt8):List UInt8 × Nat:=if ZG k n s then (Ye k n s,0) else ([],2)
theorem y6 (k n:Int) (s:List UInt8) (hn0:-9223372036854775808≤n) (hn1:n≤9223372036854775807):(Ye k n s).length≤2*s.length+30:=by
 have b:∀u:Nat,u≤9223372036854775808→(Lib.decDigits u).length≤20:=fun u hu=>by
  rw [Lib.decDigits_length];rcases Nat.lt_or_ge (Lib.nDigits u) 21 with h | h
  ·omega
  ·exfalso
   have m:=Lib.nDigits_pos u
   have:∀(j u:Nat),j+1≤Lib.nDigits u→10 ^ j≤u∨j=0:=by
    intro j
    induction j with
    | zero=>intro u _;exact .inr rfl
    | succ j ih =>
     intro u e
     by_cases hu:u<10
     ·rw [Lib.nDigits_small hu] at e;omega
     ·rw [Lib.nDigits_big hu] at e
      left
      rcases ih (u / 10) (by omega) with c | c
      ·rw [Nat.pow_succ];omega
      ·subst c;omega
   rcases this 19 u (by omega) with c | c
   ·have:(10:Nat) ^ 19=10000000000000000000:=by decide
    omega
   ·omega
 unfold Ye
 split
 ·unfold Lib.itoa
  split
  ·have:=b n.natAbs (by omega)
   rw [List.length_cons];omega
  ·have:=b n.toNat (by omega)
   omega
 ·split
  ·unfold yx
   have:=xF s
   rw [List.length_cons,List.length_append,List.length_singleton];omega
  ·omega
theorem ZU (k n a b:Int) (s:List UInt8) (w:World) (hn0:-9223372036854775808≤n) (hn1:n≤9223372036854775807) (hl:s.length≤100000000) (ht:zQ w) :
  Calls Tryz.prog 42 #[.agg #[.int .i64 k,.string (za s),.int .i64 n,.int .i64 a,.int .i64 b]] w fun e w'=>e=.returned (.tuple #[.string (za (xH k n s).1),.int .i64 (xH k n s).2])∧Below w.heap.size w w':=by
 obtain ⟨w1,u⟩:∃w1,w1=w.alloc (.cells #[.int .i64 k,.string (za s),.int .i64 n,.int .i64 0,.int .i64 0] 103):=⟨_,rfl⟩;have G:Below w.heap.size w w1:=by rw [u];exact (Below.refl _ w).alloc (Nat.le_refl _) _
 have X:w1.heap.size=w.heap.size+1:=by rw [u];simp
 have F:w1.heap[w.heap.size]?=some (.cells #[.int .i64 k,.string (za s),.int .i64 n,.int .i64 0,.int .i64 0] 103 (0,0)):=by rw [u];exact World.alloc_heap_new w _
 have HT:Hid (zQ w1):=ht.below G (Nat.le_refl _);have V:Hid (Below w.heap.size w w1):=G;have T:=xG k n 0 0 s w1 hn0 hn1 hl HT.out;have aa:=y6 k n s hn0 hn1;have y:Hid (xH k n s=if ZG k n s then (Ye k n s,0) else ([],2)):=rfl
 have q:Hid (ZG k n s↔(Z8 (Ye k n s)).e=0∧((Z8 (Ye k n s)).k:Int)=k∧(Z8 (Ye k n s)).s=s∧((Z8 (Ye k n s)).n:Int)=n):=Iff.rfl;obtain ⟨x,hx⟩:∃x,x=Ye k n s:=⟨_,rfl⟩;rw [←hx] at T aa y q;obtain ⟨R,W⟩:∃R,R=Z8 x:=⟨_,rfl⟩;rw [←W] at q;have O:=fun wx (h:z7 wx)=>X6 x wx (by omega) h
 rw [←W] at O
 unfold zy at O
 have H:=fun wx=>X7 x wx (by omega)
 clear ht G hx W;rw [u] at T
 go_enter Tryz.func42,Tryz.ntmps42
 go_wp2_with fail
 refine T.mono ?_;clear T;rw [←u];rintro e Y ⟨rfl,B⟩;have M:=HT.out.below B (Nat.le_refl _);have z:=(B.block w.heap.size (by omega)).trans F
 have Z:Hid (Below w.heap.size w Y):=V.out.trans (B.mono (by omega))
 have U:w.heap.size+1≤Y.heap.size:=by rw [←X];exact B.size
 have I:=O Y M.1;clear B O u F M;go_wp2_with fail
 refine I.mono ?_;clear I;rintro e E ⟨rfl,D⟩;have c:=(D.block w.heap.size (by omega)).trans z
 have A:Hid (Below w.heap.size w E):=Z.out.trans (D.mono (by omega))
 have af:w.heap.size+1≤E.heap.size:=Nat.le_trans U D.size;have q0:∀o,(E.alloc o).cell? ⟨w.heap.size,0,none⟩=some (.int .i64 k):=fun o=>Lib.cell?_alloc_some o (by rw [cell_of_row _ _ _ _ _ _ c];rfl)
 have q1:∀o,(E.alloc o).cell? ⟨w.heap.size,1,none⟩=some (.string (za s)):=fun o=>Lib.cell?_alloc_some o (by rw [cell_of_row _ _ _ _ _ _ c];rfl)
 have q2:∀o,(E.alloc o).cell? ⟨w.heap.size,2,none⟩=some (.int .i64 n):=fun o=>Lib.cell?_alloc_some o (by rw [cell_of_row _ _ _ _ _ _ c];rfl)
 have q3:∀o,(E.alloc o).cell? ⟨w.heap.size,3,none⟩=some (.int .i64 0):=fun o=>Lib.cell?_alloc_some o (by rw [cell_of_row _ _ _ _ _ _ c];rfl)
 have q4:∀o,(E.alloc o).cell? ⟨w.heap.size,4,none⟩=some (.int .i64 0):=fun o=>Lib.cell?_alloc_some o (by rw [cell_of_row _ _ _ _ _ _ c];rfl)
 clear D z c
 by_cases he:R.e=0
 ·rw [he]
  by_cases hk:(R.k:Int)=k
  ·by_cases hs:R.s=s
   ·by_cases hn:(R.n:Int)=n
    ·have m:Hid (xH k n s=(x,0)):=y.out.trans (if_pos (q.out.2 ⟨he,hk,hs,hn⟩))
     rw [hk,hs,hn];have J:=H (E.alloc (.cells #[.int .i64 k,.string (za s),.int .i64 n,.int .i64 0,.int .i64 0] 103));go_wp2_with fail
     refine J.mono ?_;clear J H;rintro e w4 ⟨rfl,K⟩;have ab:Hid (Below w.heap.size w w4):=(A.out.alloc (by omega) _).trans (K.mono (by simp;omega))
     clear K;go_wp2
     go_ret2
     rw [m.out];exact ⟨rfl,ab.out⟩
    ·have m:Hid (xH k n s=([],2)):=y.out.trans (if_neg (fun h=>hn (q.out.1 h).2.2.2))
     have ah:((R.n:Int)==n)=false:=by rw [beq_eq_false_iff_ne];exact hn
     rw [hk,hs];clear H;go_wp2
     go_ret2
     rw [m.out];exact ⟨rfl,A.out.alloc (by omega) _⟩
   ·have m:Hid (xH k n s=([],2)):=y.out.trans (if_neg (fun h=>hs (q.out.1 h).2.2.1))
    have ad:(R.s==s)=false:=by rw [V7];exact decide_eq_false hs
    rw [hk];clear H;go_wp2
    go_ret2
    rw [m.out];exact ⟨rfl,A.out.alloc (by omega) _⟩
  ·have m:Hid (xH k n s=([],2)):=y.out.trans (if_neg (fun h=>hk (q.out.1 h).2.1))
   have ag:((R.k:Int)==k)=false:=by rw [beq_eq_false_iff_ne];exact hk
   clear H;go_wp2
   go_ret2
   rw [m.out];exact ⟨rfl,A.out.alloc (by omega) _⟩
 ·have m:Hid (xH k n s=([],2)):=y.out.trans (if_neg (fun h=>he (q.out.1 h).1))
  have ae:((R.e:Int) != 0)=true:=by rw [bne_iff_ne];omega
  clear H;go_wp2
  go_ret2
  rw [m.out];exact ⟨rfl,A.out.alloc (by omega) _⟩
structure Vl where
 k:Int
 n:Int
 s:List UInt8
abbrev Ob:Type:=List UInt8 × List Vl
def YR (v:Vl):List Value:=[.int .i64 v.k,.int .i64 v.n,.string (za v.s)]
def Zr (l:List Vl):List Value:=l.flatMap YR
abbrev V5 (v:Vl):Value:=.agg #[.int .i64 v.k,.int .i64 v.n,.string (za v.s)]
theorem XU (l:List Vl):(Zr l).length=l.length*3:=by
 induction l with
 | nil=>rfl
 | cons x l ih=>unfold Zr at ih ⊢;rw [List.flatMap_cons,List.length_append,ih,List.length_cons];simp only [YR,List.length_cons,List.length_nil];omega
theorem VE (a b:List Vl):Zr (a++b)=Zr a++Zr b:=by unfold Zr;rw [List.flatMap_append]
theorem VF (v:Vl):Zr [v]=YR v:=by unfold Zr;simp
theorem vT:∀(l:List Vl) (i:Nat) (h:i<l.length),(Zr l)[i*3]?=some (.int .i64 (l[i]).k)∧(Zr l)[i*3+1]?=some (.int .i64 (l[i]).n)∧(Zr l)[i*3+2]?=some (.string (za (l[i]).s))
 | [],_,h=>by cases h
 | t::ts,0,_=>⟨rfl,rfl,rfl⟩
 | t::ts,i+1,h=>by
  have m:=vT ts i (by simpa using h)
  have e:Zr (t::ts)=YR t++Zr ts:=rfl
  have b:∀q,(Zr (t::ts))[(i+1)*3+q]?=(Zr ts)[i*3+q]?:=fun q=>by
   rw [e,List.getElem?_append_right (by simp [YR];omega)]
   congr 1
   simp [YR]
   omega
  have c:=b 0;simp only [Nat.add_zero] at c;rw [c,b 1,b 2];exact m
def zC (S:Nat→Prop) (w:World) (v:Value) (l:List Vl):Prop :=
 ∃base cap,v=.slice base l.length cap∧l.length≤cap∧cap≤maxLen ∧
  (l=[]∨∃b o,base=some ⟨b,o,none⟩∧S b∧b<w.heap.size∧∀j u,(Zr l)[j]?=some u→w.cell? ⟨b,o+j,none⟩=some u)
theorem zC.kept {S:Nat→Prop} {w w':World} {v:Value} {l:List Vl} (h:zC S w v l) (hs:w.heap.size≤w'.heap.size) (hb:∀k,S k→k<w.heap.size→w'.heap[k]?=w.heap[k]?):zC S w' v l:=by
 obtain ⟨base,q,y,z,B,m⟩:=h;refine ⟨base,q,y,z,B,?_⟩;rcases m with m | ⟨b,o,e,x,c,A⟩
 ·exact .inl m
 ·exact .inr ⟨b,o,e,x,Nat.lt_of_lt_of_le c hs,fun j u hj=>(World.cell?_of_block (hb b x c)).trans (A j u hj)⟩
theorem zC.wide {S S':Nat→Prop} {w:World} {v:Value} {l:List Vl} (h:zC S w v l) (hS:∀k,S k→S' k):zC S' w v l:=by
 obtain ⟨base,q,x,y,A,c⟩:=h;refine ⟨base,q,x,y,A,?_⟩;rcases c with c | ⟨b,o,e,u,m,z⟩
 ·exact .inl c
 ·exact .inr ⟨b,o,e,hS b u,m,z⟩
theorem zC.low {S:Nat→Prop} {w:World} {v:Value} {l:List Vl} (h:zC S w v l):zC (fun k=>S k∧k<w.heap.size) w v l:=by
 obtain ⟨base,q,x,y,A,m⟩:=h;refine ⟨base,q,x,y,A,?_⟩;rcases m with m | ⟨b,o,e,u,c,z⟩
 ·exact .inl m
 ·exact .inr ⟨b,o,e,⟨u,c⟩,c,z⟩
theorem zC.len {S:Nat→Prop} {w:World} {v:Value} {l:List Vl} (h:zC S w v l):l.length≤maxLen:=by
 obtain ⟨_,b,_,c,e,_⟩:=h;omega
theorem zC.at {S:Nat→Prop} {w:World} {v:Value} {l:List Vl} (h:zC S w v l):∃base c,v=.slice base l.length c∧l.length≤c∧c≤maxLen ∧
  ∀i (hi:i<l.length),∃b o,base=some ⟨b,o,none⟩∧S b∧b<w.heap.size∧w.cell? ⟨b,o+i*3,none⟩=some (.int .i64 (l[i]).k)∧w.cell? ⟨b,o+i*3+1,none⟩=some (.int .i64 (l[i]).n)∧w.cell? ⟨b,o+i*3+2,none⟩=some (.string (za (l[i]).s)):=by
 obtain ⟨base,c,A,B,E,m⟩:=h;refine ⟨base,c,A,B,E,fun i hi=>?_⟩
 rcases m with m | ⟨b,o,e,z,q,u⟩
 ·subst m;simp at hi
 ·obtain ⟨y,D,x⟩:=vT l i hi
  exact ⟨b,o,e,z,q,u _ _ y,by have:=u _ _ D;rwa [←Nat.add_assoc] at this,by have:=u _ _ x;rwa [←Nat.add_assoc] at this⟩
def zb (v:Vl) (n:Int):Bool :=
 if v.k=0 then decide (v.n=0∧v.s=[])
 else if v.k=1 then decide (v.s=[])
 else if v.k=2 then decide ((v.n=0∨v.n=1)∧v.s=[])
 else if v.k=3 then decide (v.n=0∧ZG 3 0 v.s)
 else if v.k=4 then decide ((0≤v.n∧v.n<n)∧v.s=[])
 else false
def vU (v:Vl) (n:Int):Bool:=decide (v.k≠0)&&zb v n
def uy (t:List UInt8):Bool:=decide (t=[]∨ZG 1 0 t)
def uw (o:Ob) (n:Int):Bool:=o.2.all (fun v=>vU v n)&&uy o.1
end Go.Proofs.YtbjndgachcdbcaaGreatDoor

import Derived.Test.YtbjndgachcdbcaaGreatDoorMC5
import Derived.Maps.AppendAt
namespace Go.Proofs.YtbjndgachcdbcaaGreatDoor
open Go.RowKit Go.Shelf
set_option maxHeartbeats 16000000
set_option maxRecDepth 100000
def zQ (w : World) : Prop := z6 w ∧ Lib.TabIs Tryz.prog w "internal/strconv.uint64pow10" .u64 Lib.pow10Tab
theorem zQ.below {w w':World} {B:Nat} (h:zQ w) (hb:Below B w w') (hB:w.heap.size≤B):zQ w' :=
 ⟨h.1.below hb hB,Lib.tabBelow_of_tabIs h.2 w' (hb.mono hB)⟩
def yY (k n:Int) (s:List UInt8):List UInt8:=if k=2 then Lib.itoa n else if k=3 then yt s else s
theorem xr (k n a b:Int) (s:List UInt8) (w:World) (hn0:-9223372036854775808≤n) (hn1:n≤9223372036854775807) (hl:s.length≤100000000) (ht:zQ w) :
  Calls Tryz.prog 52 #[.agg #[.int .i64 k,.string (za s),.int .i64 n,.int .i64 a,.int .i64 b]] w fun e w'=>e=.returned (.string (za (yY k n s)))∧Below w.heap.size w w':=by
 obtain ⟨w1,c⟩:∃w1,w1=w.alloc (.cells #[.int .i64 k,.string (za s),.int .i64 n,.int .i64 a,.int .i64 b] 103):=⟨_,rfl⟩;have m:Below w.heap.size w w1:=by rw [c];exact (Below.refl _ w).alloc (Nat.le_refl _) _
 have D:Hid (zQ w1):=ht.below m (Nat.le_refl _);have u:Hid (Below w.heap.size w w1):=m;have z:=m.size;clear ht m
 by_cases h2:k=2
 ·have B:Hid (yY k n s=Lib.itoa n):=if_pos h2
  have y:=Tryz.strconv_Itoa n hn0 hn1 w1 D.out.2;rw [c] at y;subst h2
  go_enter Tryz.func52,Tryz.ntmps52
  go_wp2_with fail
  refine y.mono ?_;clear y;rintro e A ⟨rfl,q,os,o⟩
  have h:Hid (Below w.heap.size w A):=by
   show Below w.heap.size w A
   rw [←c] at o;rw [o];exact u.out.trans (Lib.below_grow w.heap.size w1 z q os)
  clear o c;go_wp2
  go_ret
  rw [B.out];exact ⟨rfl,h.out⟩
 ·have E:(k==2)=false:=by rw [beq_eq_false_iff_ne];exact h2
  by_cases h3:k=3
  ·have B:Hid (yY k n s=yt s):=show _=_ by unfold yY;rw [if_neg h2,if_pos h3]
   have y:=xY s w1 hl D.out.1;rw [c] at y;subst h3
   go_enter Tryz.func52,Tryz.ntmps52
   go_wp2_with fail
   refine y.mono ?_;clear y;rintro e A ⟨rfl,x⟩
   have h:Hid (Below w.heap.size w A):=by
    show Below w.heap.size w A
    rw [←c] at x;exact u.out.trans (x.mono z)
   clear x c;go_wp2
   go_ret
   rw [B.out];exact ⟨rfl,h.out⟩
  ·have F:(k==3)=false:=by rw [beq_eq_false_iff_ne];exact h3
   have B:Hid (yY k n s=s):=show _=_ by unfold yY;rw [if_neg h2,if_neg h3]
   have h:Hid (Below w.heap.size w (w.alloc (.cells #[.int .i64 k,.string (za s),.int .i64 n,.int .i64 a,.int .i64 b] 103))):=by rw [←c];exact u.out
   clear c
   go_enter Tryz.func52,Tryz.ntmps52
   go_wp2
   go_ret
   rw [B.out];exact ⟨rfl,h.out⟩
def ZE (k n:Int) (s:List UInt8):Prop:=(Z5 (yY k n s)).e=0∧((Z5 (yY k n s)).k:Int)=k∧(Z5 (yY k n s)).s=s∧((Z5 (yY k n s)).n:Int)=n
instance (k n:Int) (s:List UInt8):Decidable (ZE k n s):=by unfold ZE;infer_instance
def xt (k n:Int) (s:List UInt8):List UInt8 × Nat:=if ZE k n s then (yY k n s,0) else ([],2)
theorem yT (k n:Int) (s:List UInt8) (hn0:-9223372036854775808≤n) (hn1:n≤9223372036854775807):(yY k n s).length≤2*s.length+30:=by
 have b:∀u:Nat,u≤9223372036854775808→(Lib.decDigits u).length≤20:=fun u hu=>by
  rw [Lib.decDigits_length];rcases Nat.lt_or_ge (Lib.nDigits u) 21 with h | h
  ·omega
  ·exfalso
   have m:=Lib.nDigits_pos u
   have:∀(j u:Nat),j+1≤Lib.nDigits u→10 ^ j≤u∨j=0:=by
    intro j
    induction j with
    | zero=>intro u _;exact .inr rfl
    | succ j ih =>
     intro u e
     by_cases hu:u<10
     ·rw [Lib.nDigits_small hu] at e;omega
     ·rw [Lib.nDigits_big hu] at e
      left
      rcases ih (u / 10) (by omega) with c | c
      ·rw [Nat.pow_succ];omega
      ·subst c;omega
   rcases this 19 u (by omega) with c | c
   ·have:(10:Nat) ^ 19=10000000000000000000:=by decide
    omega
   ·omega
 unfold yY
 split
 ·unfold Lib.itoa
  split
  ·have:=b n.natAbs (by omega)
   rw [List.length_cons];omega
  ·have:=b n.toNat (by omega)
   omega
 ·split
  ·unfold yt
   have:=xq s
   rw [List.length_cons,List.length_append,List.length_singleton];omega
  ·omega
theorem ZT (k n a b:Int) (s:List UInt8) (w:World) (hn0:-9223372036854775808≤n) (hn1:n≤9223372036854775807) (hl:s.length≤100000000) (ht:zQ w) :
  Calls Tryz.prog 42 #[.agg #[.int .i64 k,.string (za s),.int .i64 n,.int .i64 a,.int .i64 b]] w fun e w'=>e=.returned (.tuple #[.string (za (xt k n s).1),.int .i64 (xt k n s).2])∧Below w.heap.size w w':=by
 obtain ⟨w1,u⟩:∃w1,w1=w.alloc (.cells #[.int .i64 k,.string (za s),.int .i64 n,.int .i64 0,.int .i64 0] 103):=⟨_,rfl⟩;have G:Below w.heap.size w w1:=by rw [u];exact (Below.refl _ w).alloc (Nat.le_refl _) _
 have V:w1.heap.size=w.heap.size+1:=by rw [u];simp
 have E:w1.heap[w.heap.size]?=some (.cells #[.int .i64 k,.string (za s),.int .i64 n,.int .i64 0,.int .i64 0] 103 (0,0)):=by rw [u];exact World.alloc_heap_new w _
 have HT:Hid (zQ w1):=ht.below G (Nat.le_refl _);have X:Hid (Below w.heap.size w w1):=G;have O:=xr k n 0 0 s w1 hn0 hn1 hl HT.out;have Y:=yT k n s hn0 hn1;have y:Hid (xt k n s=if ZE k n s then (yY k n s,0) else ([],2)):=rfl
 have q:Hid (ZE k n s↔(Z5 (yY k n s)).e=0∧((Z5 (yY k n s)).k:Int)=k∧(Z5 (yY k n s)).s=s∧((Z5 (yY k n s)).n:Int)=n):=Iff.rfl;obtain ⟨x,hx⟩:∃x,x=yY k n s:=⟨_,rfl⟩;rw [←hx] at O Y y q;obtain ⟨R,U⟩:∃R,R=Z5 x:=⟨_,rfl⟩;rw [←U] at q;have T:=fun wx (h:z6 wx)=>XL x wx (by omega) h
 rw [←U] at T
 unfold zy at T
 have H:=fun wx=>XM x wx (by omega)
 clear ht G hx U;rw [u] at O
 go_enter Tryz.func42,Tryz.ntmps42
 go_wp2_with fail
 refine O.mono ?_;clear O;rw [←u];rintro e W ⟨rfl,z⟩;have K:=HT.out.below z (Nat.le_refl _);have A:=(z.block w.heap.size (by omega)).trans E
 have aa:Hid (Below w.heap.size w W):=X.out.trans (z.mono (by omega))
 have Z:w.heap.size+1≤W.heap.size:=by rw [←V];exact z.size
 have J:=T W K.1;clear z T u E K;go_wp2_with fail
 refine J.mono ?_;clear J;rintro e F ⟨rfl,D⟩;have c:=(D.block w.heap.size (by omega)).trans A
 have B:Hid (Below w.heap.size w F):=aa.out.trans (D.mono (by omega))
 have ad:w.heap.size+1≤F.heap.size:=Nat.le_trans Z D.size;have q0:∀o,(F.alloc o).cell? ⟨w.heap.size,0,none⟩=some (.int .i64 k):=fun o=>Lib.cell?_alloc_some o (by rw [cell_of_row _ _ _ _ _ _ c];rfl)
 have q1:∀o,(F.alloc o).cell? ⟨w.heap.size,1,none⟩=some (.string (za s)):=fun o=>Lib.cell?_alloc_some o (by rw [cell_of_row _ _ _ _ _ _ c];rfl)
 have q2:∀o,(F.alloc o).cell? ⟨w.heap.size,2,none⟩=some (.int .i64 n):=fun o=>Lib.cell?_alloc_some o (by rw [cell_of_row _ _ _ _ _ _ c];rfl)
 have q3:∀o,(F.alloc o).cell? ⟨w.heap.size,3,none⟩=some (.int .i64 0):=fun o=>Lib.cell?_alloc_some o (by rw [cell_of_row _ _ _ _ _ _ c];rfl)
 have q4:∀o,(F.alloc o).cell? ⟨w.heap.size,4,none⟩=some (.int .i64 0):=fun o=>Lib.cell?_alloc_some o (by rw [cell_of_row _ _ _ _ _ _ c];rfl)
 clear D A c
 by_cases he:R.e=0
 ·rw [he]
  by_cases hk:(R.k:Int)=k
  ·by_cases hs:R.s=s
   ·by_cases hn:(R.n:Int)=n
    ·have m:Hid (xt k n s=(x,0)):=y.out.trans (if_pos (q.out.2 ⟨he,hk,hs,hn⟩))
     rw [hk,hs,hn];have M:=H (F.alloc (.cells #[.int .i64 k,.string (za s),.int .i64 n,.int .i64 0,.int .i64 0] 103));go_wp2_with fail
     refine M.mono ?_;clear M H;rintro e w4 ⟨rfl,I⟩;have ab:Hid (Below w.heap.size w w4):=(B.out.alloc (by omega) _).trans (I.mono (by simp;omega))
     clear I;go_wp2
     go_ret2
     rw [m.out];exact ⟨rfl,ab.out⟩
    ·have m:Hid (xt k n s=([],2)):=y.out.trans (if_neg (fun h=>hn (q.out.1 h).2.2.2))
     have ag:((R.n:Int)==n)=false:=by rw [beq_eq_false_iff_ne];exact hn
     rw [hk,hs];clear H;go_wp2
     go_ret2
     rw [m.out];exact ⟨rfl,B.out.alloc (by omega) _⟩
   ·have m:Hid (xt k n s=([],2)):=y.out.trans (if_neg (fun h=>hs (q.out.1 h).2.2.1))
    have ae:(R.s==s)=false:=by rw [Vu];exact decide_eq_false hs
    rw [hk];clear H;go_wp2
    go_ret2
    rw [m.out];exact ⟨rfl,B.out.alloc (by omega) _⟩
  ·have m:Hid (xt k n s=([],2)):=y.out.trans (if_neg (fun h=>hk (q.out.1 h).2.1))
   have af:((R.k:Int)==k)=false:=by rw [beq_eq_false_iff_ne];exact hk
   clear H;go_wp2
   go_ret2
   rw [m.out];exact ⟨rfl,B.out.alloc (by omega) _⟩
 ·have m:Hid (xt k n s=([],2)):=y.out.trans (if_neg (fun h=>he (q.out.1 h).1))
  have ah:((R.e:Int) != 0)=true:=by rw [bne_iff_ne];omega
  clear H;go_wp2
  go_ret2
  rw [m.out];exact ⟨rfl,B.out.alloc (by omega) _⟩
structure Vl where
 k:Int
 n:Int
 s:List UInt8
abbrev Ob:Type:=List UInt8 × List Vl
def YH (v:Vl):List Value:=[.int .i64 v.k,.int .i64 v.n,.string (za v.s)]
def Zp (l:List Vl):List Value:=l.flatMap YH
abbrev VG (v:Vl):Value:=.agg #[.int .i64 v.k,.int .i64 v.n,.string (za v.s)]
theorem XA (l:List Vl):(Zp l).length=l.length*3:=by
 induction l with
 | nil=>rfl
 | cons x l ih=>unfold Zp at ih ⊢;rw [List.flatMap_cons,List.length_append,ih,List.length_cons];simp only [YH,List.length_cons,List.length_nil];omega
theorem vZ (a b:List Vl):Zp (a++b)=Zp a++Zp b:=by unfold Zp;rw [List.flatMap_append]
theorem v7 (v:Vl):Zp [v]=YH v:=by unfold Zp;simp
theorem vr:∀(l:List Vl) (i:Nat) (h:i<l.length),(Zp l)[i*3]?=some (.int .i64 (l[i]).k)∧(Zp l)[i*3+1]?=some (.int .i64 (l[i]).n)∧(Zp l)[i*3+2]?=some (.string (za (l[i]).s))
 | [],_,h=>by cases h
 | t::ts,0,_=>⟨rfl,rfl,rfl⟩
 | t::ts,i+1,h=>by
  have m:=vr ts i (by simpa using h)
  have e:Zp (t::ts)=YH t++Zp ts:=rfl
  have b:∀q,(Zp (t::ts))[(i+1)*3+q]?=(Zp ts)[i*3+q]?:=fun q=>by
   rw [e,List.getElem?_append_right (by simp [YH];omega)]
   congr 1
   simp [YH]
   omega
  have c:=b 0;simp only [Nat.add_zero] at c;rw [c,b 1,b 2];exact m
def zC (S:Nat→Prop) (w:World) (v:Value) (l:List Vl):Prop :=
 ∃base cap,v=.slice base l.length cap∧l.length≤cap∧cap≤maxLen ∧
  (l=[]∨∃b o,base=some ⟨b,o,none⟩∧S b∧b<w.heap.size∧∀j u,(Zp l)[j]?=some u→w.cell? ⟨b,o+j,none⟩=some u)
theorem zC.kept {S:Nat→Prop} {w w':World} {v:Value} {l:List Vl} (h:zC S w v l) (hs:w.heap.size≤w'.heap.size) (hb:∀k,S k→k<w.heap.size→w'.heap[k]?=w.heap[k]?):zC S w' v l:=by
 obtain ⟨base,q,z,A,B,m⟩:=h;refine ⟨base,q,z,A,B,?_⟩;rcases m with m | ⟨b,o,e,x,c,y⟩
 ·exact .inl m
 ·exact .inr ⟨b,o,e,x,Nat.lt_of_lt_of_le c hs,fun j u hj=>(World.cell?_of_block (hb b x c)).trans (y j u hj)⟩
theorem zC.wide {S S':Nat→Prop} {w:World} {v:Value} {l:List Vl} (h:zC S w v l) (hS:∀k,S k→S' k):zC S' w v l:=by
 obtain ⟨base,q,x,y,z,c⟩:=h;refine ⟨base,q,x,y,z,?_⟩;rcases c with c | ⟨b,o,e,A,m,u⟩
 ·exact .inl c
 ·exact .inr ⟨b,o,e,hS b A,m,u⟩
theorem zC.low {S:Nat→Prop} {w:World} {v:Value} {l:List Vl} (h:zC S w v l):zC (fun k=>S k∧k<w.heap.size) w v l:=by
 obtain ⟨base,q,x,y,z,m⟩:=h;refine ⟨base,q,x,y,z,?_⟩;rcases m with m | ⟨b,o,e,A,c,u⟩
 ·exact .inl m
 ·exact .inr ⟨b,o,e,⟨A,c⟩,c,u⟩
theorem zC.len {S:Nat→Prop} {w:World} {v:Value} {l:List Vl} (h:zC S w v l):l.length≤maxLen:=by
 obtain ⟨_,b,_,c,e,_⟩:=h;omega
theorem zC.at {S:Nat→Prop} {w:World} {v:Value} {l:List Vl} (h:zC S w v l):∃base c,v=.slice base l.length c∧l.length≤c∧c≤maxLen ∧
  ∀i (hi:i<l.length),∃b o,base=some ⟨b,o,none⟩∧S b∧b<w.heap.size∧w.cell? ⟨b,o+i*3,none⟩=some (.int .i64 (l[i]).k)∧w.cell? ⟨b,o+i*3+1,none⟩=some (.int .i64 (l[i]).n)∧w.cell? ⟨b,o+i*3+2,none⟩=some (.string (za (l[i]).s)):=by
 obtain ⟨base,c,y,z,A,q⟩:=h;refine ⟨base,c,y,z,A,fun i hi=>?_⟩
 rcases q with q | ⟨b,o,e,D,u,m⟩
 ·subst q;simp at hi
 ·obtain ⟨B,x,E⟩:=vr l i hi
  exact ⟨b,o,e,D,u,m _ _ B,by have:=m _ _ x;rwa [←Nat.add_assoc] at this,by have:=m _ _ E;rwa [←Nat.add_assoc] at this⟩
def zb (v:Vl) (n:Int):Bool :=
 if v.k=0 then decide (v.n=0∧v.s=[])
 else if v.k=1 then decide (v.s=[])
 else if v.k=2 then decide ((v.n=0∨v.n=1)∧v.s=[])
 else if v.k=3 then decide (v.n=0∧ZE 3 0 v.s)
 else if v.k=4 then decide ((0≤v.n∧v.n<n)∧v.s=[])
 else false
def vt (v:Vl) (n:Int):Bool:=decide (v.k≠0)&&zb v n
def VT (t:List UInt8):Bool:=decide (t=[]∨ZE 1 0 t)
def VP (o:Ob) (n:Int):Bool:=o.2.all (fun v=>vt v n)&&VT o.1
end Go.Proofs.YtbjndgachcdbcaaGreatDoor

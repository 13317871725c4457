import Derived.Test.YtbjndgachcdbcaaGreatDoorMC5
import Derived.Maps.AppendAt
namespace Go.Proofs.YtbjndgachcdbcaaGreatDoor
open Go.RowKit Go.Shelf
set_option maxHeartbeats 16000000
set_option maxRecDepth 100000
def zD (w : World) : Prop := Zb w ∧ Lib.TabIs Tryz.prog w "internal/strconv.uint64pow10" .u64 Lib.pow10Tab
theorem zD.below {w w':World} {B:Nat} (h:zD w) (hb:Below B w w') (hB:w.heap.size≤B):zD w' :=
 ⟨h.1.below hb hB,Lib.tabBelow_of_tabIs h.2 w' (hb.mono hB)⟩
def YE (k n:Int) (s:List UInt8):List UInt8:=if k=2 then Lib.itoa n else if k=3 then yV s else s
theorem Xi (k n a b:Int) (s:List UInt8) (w:World) (hn0:-9223372036854775808≤n) (hn1:n≤9223372036854775807) (hl:s.length≤100000000) (ht:zD w) :
  Calls Tryz.prog 52 #[.agg #[.int .i64 k,.string (za s),.int .i64 n,.int .i64 a,.int .i64 b]] w fun e w'=>e=.returned (.string (za (YE k n s)))∧Below w.heap.size w w':=by
 obtain ⟨w1,c⟩:∃w1,w1=w.alloc (.cells #[.int .i64 k,.string (za s),.int .i64 n,.int .i64 a,.int .i64 b] 103):=⟨_,rfl⟩;have m:Below w.heap.size w w1:=by rw [c];exact (Below.refl _ w).alloc (Nat.le_refl _) _
 have E:Hid (zD w1):=ht.below m (Nat.le_refl _);have z:Hid (Below w.heap.size w w1):=m;have A:=m.size;clear ht m
 by_cases h2:k=2
 ·have D:Hid (YE k n s=Lib.itoa n):=if_pos h2
  have y:=Tryz.strconv_Itoa n hn0 hn1 w1 E.out.2;rw [c] at y;subst h2
  go_enter Tryz.func52,Tryz.ntmps52
  go_wp2_with fail
  refine y.mono ?_;clear y;rintro e B ⟨rfl,q,os,o⟩
  have h:Hid (Below w.heap.size w B):=by
   show Below w.heap.size w B
   rw [←c] at o;rw [o];exact z.out.trans (Lib.below_grow w.heap.size w1 A q os)
  clear o c;go_wp2
  go_ret
  rw [D.out];exact ⟨rfl,h.out⟩
 ·have F:(k==2)=false:=by rw [beq_eq_false_iff_ne];exact h2
  by_cases h3:k=3
  ·have D:Hid (YE k n s=yV s):=show _=_ by unfold YE;rw [if_neg h2,if_pos h3]
   have y:=XV s w1 hl E.out.1;rw [c] at y;subst h3
   go_enter Tryz.func52,Tryz.ntmps52
   go_wp2_with fail
   refine y.mono ?_;clear y;rintro e B ⟨rfl,u⟩
   have h:Hid (Below w.heap.size w B):=by
    show Below w.heap.size w B
    rw [←c] at u;exact z.out.trans (u.mono A)
   clear u c;go_wp2
   go_ret
   rw [D.out];exact ⟨rfl,h.out⟩
  ·have G:(k==3)=false:=by rw [beq_eq_false_iff_ne];exact h3
   have D:Hid (YE k n s=s):=show _=_ by unfold YE;rw [if_neg h2,if_neg h3]
   have h:Hid (Below w.heap.size w (w.alloc (.cells #[.int .i64 k,.string (za s),.int .i64 n,.int .i64 a,.int .i64 b] 103))):=by rw [←c];exact z.out
   clear c
   go_enter Tryz.func52,Tryz.ntmps52
   go_wp2
   go_ret
   rw [D.out];exact ⟨rfl,h.out⟩
def Zs (k n:Int) (s:List UInt8):Prop:=(yx (YE k n s)).e=0∧((yx (YE k n s)).k:Int)=k∧(yx (YE k n s)).s=s∧((yx (YE k n s)).n:Int)=n
instance (k n:Int) (s:List UInt8):Decidable (Zs k n s):=by unfold Zs;infer_instance
def Xj (k n:Int) (s:List UInt8):List UInt8 × Nat:=if Zs k n s then (YE k n s,0) else ([],2)
theorem Yx (k n:Int) (s:List UInt8) (hn0:-9223372036854775808≤n) (hn1:n≤9223372036854775807):(YE k n s).length≤2*s.length+30:=by
 have b:∀u:Nat,u≤9223372036854775808→(Lib.decDigits u).length≤20:=fun u hu=>by
  rw [Lib.decDigits_length];rcases Nat.lt_or_ge (Lib.nDigits u) 21 with h | h
  ·omega
  ·exfalso
   have m:=Lib.nDigits_pos u
   have:∀(j u:Nat),j+1≤Lib.nDigits u→10 ^ j≤u∨j=0:=by
    intro j
    induction j with
    | zero=>intro u _;exact .inr rfl
    | succ j ih =>
     intro u e
     by_cases hu:u<10
     ·rw [Lib.nDigits_small hu] at e;omega
     ·rw [Lib.nDigits_big hu] at e
      left
      rcases ih (u / 10) (by omega) with c | c
      ·rw [Nat.pow_succ];omega
      ·subst c;omega
   rcases this 19 u (by omega) with c | c
   ·have:(10:Nat) ^ 19=10000000000000000000:=by decide
    omega
   ·omega
 unfold YE
 split
 ·unfold Lib.itoa
  split
  ·have:=b n.natAbs (by omega)
   rw [List.length_cons];omega
  ·have:=b n.toNat (by omega)
   omega
 ·split
  ·unfold yV
   have:=Xh s
   rw [List.length_cons,List.length_append,List.length_singleton];omega
  ·omega
theorem Z4 (k n a b:Int) (s:List UInt8) (w:World) (hn0:-9223372036854775808≤n) (hn1:n≤9223372036854775807) (hl:s.length≤100000000) (ht:zD w) :
  Calls Tryz.prog 42 #[.agg #[.int .i64 k,.string (za s),.int .i64 n,.int .i64 a,.int .i64 b]] w fun e w'=>e=.returned (.tuple #[.string (za (Xj k n s).1),.int .i64 (Xj k n s).2])∧Below w.heap.size w w':=by
 obtain ⟨w1,y⟩:∃w1,w1=w.alloc (.cells #[.int .i64 k,.string (za s),.int .i64 n,.int .i64 0,.int .i64 0] 103):=⟨_,rfl⟩;have G:Below w.heap.size w w1:=by rw [y];exact (Below.refl _ w).alloc (Nat.le_refl _) _
 have Y:w1.heap.size=w.heap.size+1:=by rw [y];simp
 have E:w1.heap[w.heap.size]?=some (.cells #[.int .i64 k,.string (za s),.int .i64 n,.int .i64 0,.int .i64 0] 103 (0,0)):=by rw [y];exact World.alloc_heap_new w _
 have HT:Hid (zD w1):=ht.below G (Nat.le_refl _);have aa:Hid (Below w.heap.size w w1):=G;have T:=Xi k n 0 0 s w1 hn0 hn1 hl HT.out;have X:=Yx k n s hn0 hn1;have u:Hid (Xj k n s=if Zs k n s then (YE k n s,0) else ([],2)):=rfl
 have q:Hid (Zs k n s↔(yx (YE k n s)).e=0∧((yx (YE k n s)).k:Int)=k∧(yx (YE k n s)).s=s∧((yx (YE k n s)).n:Int)=n):=Iff.rfl;obtain ⟨x,hx⟩:∃x,x=YE k n s:=⟨_,rfl⟩;rw [←hx] at T X u q;obtain ⟨R,hR⟩:∃R,R=yx x:=⟨_,rfl⟩;rw [←hR] at q;have O:=fun wx (h:Zb wx)=>v7 x wx (by omega) h
 rw [←hR] at O
 unfold zz at O
 have H:=fun wx=>yT x wx (by omega)
 clear ht G hx hR;rw [y] at T
 go_enter Tryz.func42,Tryz.ntmps42
 go_wp2_with fail
 refine T.mono ?_;clear T;rw [←y];rintro e W ⟨rfl,A⟩;have J:=HT.out.below A (Nat.le_refl _);have z:=(A.block w.heap.size (by omega)).trans E
 have Z:Hid (Below w.heap.size w W):=aa.out.trans (A.mono (by omega))
 have V:w.heap.size+1≤W.heap.size:=by rw [←Y];exact A.size
 have K:=O W J.1;clear A O y E J;go_wp2_with fail
 refine K.mono ?_;clear K;rintro e F ⟨rfl,D⟩;have c:=(D.block w.heap.size (by omega)).trans z
 have B:Hid (Below w.heap.size w F):=Z.out.trans (D.mono (by omega))
 have ae:w.heap.size+1≤F.heap.size:=Nat.le_trans V D.size;have q0:∀o,(F.alloc o).cell? ⟨w.heap.size,0,none⟩=some (.int .i64 k):=fun o=>Lib.cell?_alloc_some o (by rw [cell_of_row _ _ _ _ _ _ c];rfl)
 have q1:∀o,(F.alloc o).cell? ⟨w.heap.size,1,none⟩=some (.string (za s)):=fun o=>Lib.cell?_alloc_some o (by rw [cell_of_row _ _ _ _ _ _ c];rfl)
 have q2:∀o,(F.alloc o).cell? ⟨w.heap.size,2,none⟩=some (.int .i64 n):=fun o=>Lib.cell?_alloc_some o (by rw [cell_of_row _ _ _ _ _ _ c];rfl)
 have q3:∀o,(F.alloc o).cell? ⟨w.heap.size,3,none⟩=some (.int .i64 0):=fun o=>Lib.cell?_alloc_some o (by rw [cell_of_row _ _ _ _ _ _ c];rfl)
 have q4:∀o,(F.alloc o).cell? ⟨w.heap.size,4,none⟩=some (.int .i64 0):=fun o=>Lib.cell?_alloc_some o (by rw [cell_of_row _ _ _ _ _ _ c];rfl)
 clear D z c
 by_cases he:R.e=0
 ·rw [he]
  by_cases hk:(R.k:Int)=k
  ·by_cases hs:R.s=s
   ·by_cases hn:(R.n:Int)=n
    ·have m:Hid (Xj k n s=(x,0)):=u.out.trans (if_pos (q.out.2 ⟨he,hk,hs,hn⟩))
     rw [hk,hs,hn];have M:=H (F.alloc (.cells #[.int .i64 k,.string (za s),.int .i64 n,.int .i64 0,.int .i64 0] 103));go_wp2_with fail
     refine M.mono ?_;clear M H;rintro e w4 ⟨rfl,I⟩;have U:Hid (Below w.heap.size w w4):=(B.out.alloc (by omega) _).trans (I.mono (by simp;omega))
     clear I;go_wp2
     go_ret2
     rw [m.out];exact ⟨rfl,U.out⟩
    ·have m:Hid (Xj k n s=([],2)):=u.out.trans (if_neg (fun h=>hn (q.out.1 h).2.2.2))
     have ad:((R.n:Int)==n)=false:=by rw [beq_eq_false_iff_ne];exact hn
     rw [hk,hs];clear H;go_wp2
     go_ret2
     rw [m.out];exact ⟨rfl,B.out.alloc (by omega) _⟩
   ·have m:Hid (Xj k n s=([],2)):=u.out.trans (if_neg (fun h=>hs (q.out.1 h).2.2.1))
    have ab:(R.s==s)=false:=by rw [Uc];exact decide_eq_false hs
    rw [hk];clear H;go_wp2
    go_ret2
    rw [m.out];exact ⟨rfl,B.out.alloc (by omega) _⟩
  ·have m:Hid (Xj k n s=([],2)):=u.out.trans (if_neg (fun h=>hk (q.out.1 h).2.1))
   have ag:((R.k:Int)==k)=false:=by rw [beq_eq_false_iff_ne];exact hk
   clear H;go_wp2
   go_ret2
   rw [m.out];exact ⟨rfl,B.out.alloc (by omega) _⟩
 ·have m:Hid (Xj k n s=([],2)):=u.out.trans (if_neg (fun h=>he (q.out.1 h).1))
  have af:((R.e:Int) != 0)=true:=by rw [bne_iff_ne];omega
  clear H;go_wp2
  go_ret2
  rw [m.out];exact ⟨rfl,B.out.alloc (by omega) _⟩
structure Vl where
 k:Int
 n:Int
 s:List UInt8
abbrev Ob:Type:=List UInt8 × List Vl
def Y1 (v:Vl):List Value:=[.int .i64 v.k,.int .i64 v.n,.string (za v.s)]
def vlC (l:List Vl):List Value:=l.flatMap Y1
abbrev uD (v:Vl):Value:=.agg #[.int .i64 v.k,.int .i64 v.n,.string (za v.s)]
theorem Yy (l:List Vl):(vlC l).length=l.length*3:=by
 induction l with
 | nil=>rfl
 | cons x l ih=>unfold vlC at ih ⊢;rw [List.flatMap_cons,List.length_append,ih,List.length_cons];simp only [Y1,List.length_cons,List.length_nil];omega
theorem xK (a b:List Vl):vlC (a++b)=vlC a++vlC b:=by unfold vlC;rw [List.flatMap_append]
theorem vI (v:Vl):vlC [v]=Y1 v:=by unfold vlC;simp
theorem Ug (l:List Vl):∀u∈vlC l,u.oneCell'=true:=by
 intro u b
 unfold vlC at b
 rw [List.mem_flatMap] at b;obtain ⟨v,_,c⟩:=b;simp only [Y1,List.mem_cons,List.mem_nil_iff,or_false] at c;rcases c with rfl | rfl | rfl <;> rfl
theorem XW:∀(l:List Vl) (i:Nat) (h:i<l.length),(vlC l)[i*3]?=some (.int .i64 (l[i]).k)∧(vlC l)[i*3+1]?=some (.int .i64 (l[i]).n)∧(vlC l)[i*3+2]?=some (.string (za (l[i]).s))
 | [],_,h=>by cases h
 | t::ts,0,_=>⟨rfl,rfl,rfl⟩
 | t::ts,i+1,h=>by
  have m:=XW ts i (by simpa using h)
  have e:vlC (t::ts)=Y1 t++vlC ts:=rfl
  have b:∀q,(vlC (t::ts))[(i+1)*3+q]?=(vlC ts)[i*3+q]?:=fun q=>by
   rw [e,List.getElem?_append_right (by simp [Y1];omega)]
   congr 1
   simp [Y1]
   omega
  have c:=b 0;simp only [Nat.add_zero] at c;rw [c,b 1,b 2];exact m
def zp (S:Nat→Prop) (w:World) (v:Value) (l:List Vl):Prop :=
 ∃base cap,v=.slice base l.length cap∧l.length≤cap∧cap≤maxLen ∧
  (l=[]∨∃b o,base=some ⟨b,o,none⟩∧S b∧b<w.heap.size∧∀j u,(vlC l)[j]?=some u→w.cell? ⟨b,o+j,none⟩=some u)
theorem zp.kept {S:Nat→Prop} {w w':World} {v:Value} {l:List Vl} (h:zp S w v l) (hs:w.heap.size≤w'.heap.size) (hb:∀k,S k→k<w.heap.size→w'.heap[k]?=w.heap[k]?):zp S w' v l:=by
 obtain ⟨base,q,A,B,z,m⟩:=h;refine ⟨base,q,A,B,z,?_⟩;rcases m with m | ⟨b,o,e,y,c,D⟩
 ·exact .inl m
 ·exact .inr ⟨b,o,e,y,Nat.lt_of_lt_of_le c hs,fun j u hj=>(World.cell?_of_block (hb b y c)).trans (D j u hj)⟩
theorem zp.wide {S S':Nat→Prop} {w:World} {v:Value} {l:List Vl} (h:zp S w v l) (hS:∀k,S k→S' k):zp S' w v l:=by
 obtain ⟨base,m,z,A,y,c⟩:=h;refine ⟨base,m,z,A,y,?_⟩;rcases c with c | ⟨b,o,e,u,q,B⟩
 ·exact .inl c
 ·exact .inr ⟨b,o,e,hS b u,q,B⟩
theorem zp.low {S:Nat→Prop} {w:World} {v:Value} {l:List Vl} (h:zp S w v l):zp (fun k=>S k∧k<w.heap.size) w v l:=by
 obtain ⟨base,q,z,A,y,m⟩:=h;refine ⟨base,q,z,A,y,?_⟩;rcases m with m | ⟨b,o,e,u,c,B⟩
 ·exact .inl m
 ·exact .inr ⟨b,o,e,⟨u,c⟩,c,B⟩
theorem zp.len {S:Nat→Prop} {w:World} {v:Value} {l:List Vl} (h:zp S w v l):l.length≤maxLen:=by
 obtain ⟨_,b,_,e,c,_⟩:=h;omega
theorem zp.at {S:Nat→Prop} {w:World} {v:Value} {l:List Vl} (h:zp S w v l):∃base c,v=.slice base l.length c∧l.length≤c∧c≤maxLen ∧
  ∀i (hi:i<l.length),∃b o,base=some ⟨b,o,none⟩∧S b∧b<w.heap.size∧w.cell? ⟨b,o+i*3,none⟩=some (.int .i64 (l[i]).k)∧w.cell? ⟨b,o+i*3+1,none⟩=some (.int .i64 (l[i]).n)∧w.cell? ⟨b,o+i*3+2,none⟩=some (.string (za (l[i]).s)):=by
 obtain ⟨base,c,A,F,z,m⟩:=h;refine ⟨base,c,A,F,z,fun i hi=>?_⟩
 rcases m with m | ⟨b,o,e,y,q,u⟩
 ·subst m;simp at hi
 ·obtain ⟨D,B,E⟩:=XW l i hi
  exact ⟨b,o,e,y,q,u _ _ D,by have:=u _ _ B;rwa [←Nat.add_assoc] at this,by have:=u _ _ E;rwa [←Nat.add_assoc] at this⟩
def rightV (v:Vl) (n:Int):Bool :=
 if v.k=0 then decide (v.n=0∧v.s=[])
 else if v.k=1 then decide (v.s=[])
 else if v.k=2 then decide ((v.n=0∨v.n=1)∧v.s=[])
 else if v.k=3 then decide (v.n=0∧Zs 3 0 v.s)
 else if v.k=4 then decide ((0≤v.n∧v.n<n)∧v.s=[])
 else false
def ZZ (v:Vl) (n:Int):Bool:=decide (v.k≠0)&&rightV v n
def VP (t:List UInt8):Bool:=decide (t=[]∨Zs 1 0 t)
def XX (o:Ob) (n:Int):Bool:=o.2.all (fun v=>ZZ v n)&&VP o.1
end Go.Proofs.YtbjndgachcdbcaaGreatDoor

import Derived.Test.YtbjndgachcdbcaaGreatDoorMC5
import Derived.Maps.AppendAt
namespace Go.Proofs.YtbjndgachcdbcaaGreatDoor
open Go.RowKit Go.Shelf
set_option maxHeartbeats 16000000
set_option maxRecDepth 100000
def zF (w : World) : Prop := Ze w ∧ Lib.TabIs Tryz.prog w "internal/strconv.uint64pow10" .u64 Lib.pow10Tab
theorem zF.below {w w':World} {B:Nat} (h:zF w) (hb:Below B w w') (hB:w.heap.size≤B):zF w' :=
 ⟨h.1.below hb hB,Lib.tabBelow_of_tabIs h.2 w' (hb.mono hB)⟩
def YE (k n:Int) (s:List UInt8):List UInt8:=if k=2 then Lib.itoa n else if k=3 then yU s else s
theorem Xb (k n a b:Int) (s:List UInt8) (w:World) (hn0:-9223372036854775808≤n) (hn1:n≤9223372036854775807) (hl:s.length≤100000000) (ht:zF w) :
  Calls Tryz.prog 52 #[.agg #[.int .i64 k,.string (za s),.int .i64 n,.int .i64 a,.int .i64 b]] w fun e w'=>e=.returned (.string (za (YE k n s)))∧Below w.heap.size w w':=by
 obtain ⟨w1,c⟩:∃w1,w1=w.alloc (.cells #[.int .i64 k,.string (za s),.int .i64 n,.int .i64 a,.int .i64 b] 103):=⟨_,rfl⟩;have m:Below w.heap.size w w1:=by rw [c];exact (Below.refl _ w).alloc (Nat.le_refl _) _
 have E:Hid (zF w1):=ht.below m (Nat.le_refl _);have y:Hid (Below w.heap.size w w1):=m;have D:=m.size;clear ht m
 by_cases h2:k=2
 ·have A:Hid (YE k n s=Lib.itoa n):=if_pos h2
  have z:=Tryz.strconv_Itoa n hn0 hn1 w1 E.out.2;rw [c] at z;subst h2
  go_enter Tryz.func52,Tryz.ntmps52
  go_wp2_with fail
  refine z.mono ?_;clear z;rintro e B ⟨rfl,q,os,u⟩
  have h:Hid (Below w.heap.size w B):=by
   show Below w.heap.size w B
   rw [←c] at u;rw [u];exact y.out.trans (Lib.below_grow w.heap.size w1 D q os)
  clear u c;go_wp2
  go_ret
  rw [A.out];exact ⟨rfl,h.out⟩
 ·have G:(k==2)=false:=by rw [beq_eq_false_iff_ne];exact h2
  by_cases h3:k=3
  ·have A:Hid (YE k n s=yU s):=show _=_ by unfold YE;rw [if_neg h2,if_pos h3]
   have z:=XO s w1 hl E.out.1;rw [c] at z;subst h3
   go_enter Tryz.func52,Tryz.ntmps52
   go_wp2_with fail
   refine z.mono ?_;clear z;rintro e B ⟨rfl,o⟩
   have h:Hid (Below w.heap.size w B):=by
    show Below w.heap.size w B
    rw [←c] at o;exact y.out.trans (o.mono D)
   clear o c;go_wp2
   go_ret
   rw [A.out];exact ⟨rfl,h.out⟩
  ·have F:(k==3)=false:=by rw [beq_eq_false_iff_ne];exact h3
   have A:Hid (YE k n s=s):=show _=_ by unfold YE;rw [if_neg h2,if_neg h3]
   have h:Hid (Below w.heap.size w (w.alloc (.cells #[.int .i64 k,.string (za s),.int .i64 n,.int .i64 a,.int .i64 b] 103))):=by rw [←c];exact y.out
   clear c
   go_enter Tryz.func52,Tryz.ntmps52
   go_wp2
   go_ret
   rw [A.out];exact ⟨rfl,h.out⟩
def Zv (k n:Int) (s:List UInt8):Prop:=(yq (YE k n s)).e=0∧((yq (YE k n s)).k:Int)=k∧(yq (YE k n s)).s=s∧((yq (YE k n s)).n:Int)=n
instance (k n:Int) (s:List UInt8):Decidable (Zv k n s):=by unfold Zv;infer_instance
def Xc (k n:Int) (s:List UInt8):List UInt8 × Nat:=if Zv k n s then (YE k n s,0) else ([],2)
theorem Yw (k n:Int) (s:List UInt8) (hn0:-9223372036854775808≤n) (hn1:n≤9223372036854775807):(YE k n s).length≤2*s.length+30:=by
 have b:∀u:Nat,u≤9223372036854775808→(Lib.decDigits u).length≤20:=fun u hu=>by
  rw [Lib.decDigits_length];rcases Nat.lt_or_ge (Lib.nDigits u) 21 with h | h
  ·omega
  ·exfalso
   have m:=Lib.nDigits_pos u
   have:∀(j u:Nat),j+1≤Lib.nDigits u→10 ^ j≤u∨j=0:=by
    intro j
    induction j with
    | zero=>intro u _;exact .inr rfl
    | succ j ih =>
     intro u e
     by_cases hu:u<10
     ·rw [Lib.nDigits_small hu] at e;omega
     ·rw [Lib.nDigits_big hu] at e
      left
      rcases ih (u / 10) (by omega) with c | c
      ·rw [Nat.pow_succ];omega
      ·subst c;omega
   rcases this 19 u (by omega) with c | c
   ·have:(10:Nat) ^ 19=10000000000000000000:=by decide
    omega
   ·omega
 unfold YE
 split
 ·unfold Lib.itoa
  split
  ·have:=b n.natAbs (by omega)
   rw [List.length_cons];omega
  ·have:=b n.toNat (by omega)
   omega
 ·split
  ·unfold yU
   have:=Xa s
   rw [List.length_cons,List.length_append,List.length_singleton];omega
  ·omega
theorem Z4 (k n a b:Int) (s:List UInt8) (w:World) (hn0:-9223372036854775808≤n) (hn1:n≤9223372036854775807) (hl:s.length≤100000000) (ht:zF w) :
  Calls Tryz.prog 42 #[.agg #[.int .i64 k,.string (za s),.int .i64 n,.int .i64 a,.int .i64 b]] w fun e w'=>e=.returned (.tuple #[.string (za (Xc k n s).1),.int .i64 (Xc k n s).2])∧Below w.heap.size w w':=by
 obtain ⟨w1,u⟩:∃w1,w1=w.alloc (.cells #[.int .i64 k,.string (za s),.int .i64 n,.int .i64 0,.int .i64 0] 103):=⟨_,rfl⟩;have G:Below w.heap.size w w1:=by rw [u];exact (Below.refl _ w).alloc (Nat.le_refl _) _
 have ab:w1.heap.size=w.heap.size+1:=by rw [u];simp
 have F:w1.heap[w.heap.size]?=some (.cells #[.int .i64 k,.string (za s),.int .i64 n,.int .i64 0,.int .i64 0] 103 (0,0)):=by rw [u];exact World.alloc_heap_new w _
 have HT:Hid (zF w1):=ht.below G (Nat.le_refl _);have U:Hid (Below w.heap.size w w1):=G;have O:=Xb k n 0 0 s w1 hn0 hn1 hl HT.out;have X:=Yw k n s hn0 hn1;have y:Hid (Xc k n s=if Zv k n s then (YE k n s,0) else ([],2)):=rfl
 have q:Hid (Zv k n s↔(yq (YE k n s)).e=0∧((yq (YE k n s)).k:Int)=k∧(yq (YE k n s)).s=s∧((yq (YE k n s)).n:Int)=n):=Iff.rfl;obtain ⟨x,hx⟩:∃x,x=YE k n s:=⟨_,rfl⟩;rw [←hx] at O X y q;obtain ⟨R,Y⟩:∃R,R=yq x:=⟨_,rfl⟩;rw [←Y] at q;have T:=fun wx (h:Ze wx)=>vT x wx (by omega) h
 rw [←Y] at T
 unfold zB at T
 have H:=fun wx=>yS x wx (by omega)
 clear ht G hx Y;rw [u] at O
 go_enter Tryz.func42,Tryz.ntmps42
 go_wp2_with fail
 refine O.mono ?_;clear O;rw [←u];rintro e Z ⟨rfl,z⟩;have M:=HT.out.below z (Nat.le_refl _);have A:=(z.block w.heap.size (by omega)).trans F
 have aa:Hid (Below w.heap.size w Z):=U.out.trans (z.mono (by omega))
 have V:w.heap.size+1≤Z.heap.size:=by rw [←ab];exact z.size
 have J:=T Z M.1;clear z T u F M;go_wp2_with fail
 refine J.mono ?_;clear J;rintro e E ⟨rfl,D⟩;have c:=(D.block w.heap.size (by omega)).trans A
 have B:Hid (Below w.heap.size w E):=aa.out.trans (D.mono (by omega))
 have ag:w.heap.size+1≤E.heap.size:=Nat.le_trans V D.size;have q0:∀o,(E.alloc o).cell? ⟨w.heap.size,0,none⟩=some (.int .i64 k):=fun o=>Lib.cell?_alloc_some o (by rw [cell_of_row _ _ _ _ _ _ c];rfl)
 have q1:∀o,(E.alloc o).cell? ⟨w.heap.size,1,none⟩=some (.string (za s)):=fun o=>Lib.cell?_alloc_some o (by rw [cell_of_row _ _ _ _ _ _ c];rfl)
 have q2:∀o,(E.alloc o).cell? ⟨w.heap.size,2,none⟩=some (.int .i64 n):=fun o=>Lib.cell?_alloc_some o (by rw [cell_of_row _ _ _ _ _ _ c];rfl)
 have q3:∀o,(E.alloc o).cell? ⟨w.heap.size,3,none⟩=some (.int .i64 0):=fun o=>Lib.cell?_alloc_some o (by rw [cell_of_row _ _ _ _ _ _ c];rfl)
 have q4:∀o,(E.alloc o).cell? ⟨w.heap.size,4,none⟩=some (.int .i64 0):=fun o=>Lib.cell?_alloc_some o (by rw [cell_of_row _ _ _ _ _ _ c];rfl)
 clear D A c
 by_cases he:R.e=0
 ·rw [he]
  by_cases hk:(R.k:Int)=k
  ·by_cases hs:R.s=s
   ·by_cases hn:(R.n:Int)=n
    ·have m:Hid (Xc k n s=(x,0)):=y.out.trans (if_pos (q.out.2 ⟨he,hk,hs,hn⟩))
     rw [hk,hs,hn];have I:=H (E.alloc (.cells #[.int .i64 k,.string (za s),.int .i64 n,.int .i64 0,.int .i64 0] 103));go_wp2_with fail
     refine I.mono ?_;clear I H;rintro e w4 ⟨rfl,K⟩;have W:Hid (Below w.heap.size w w4):=(B.out.alloc (by omega) _).trans (K.mono (by simp;omega))
     clear K;go_wp2
     go_ret2
     rw [m.out];exact ⟨rfl,W.out⟩
    ·have m:Hid (Xc k n s=([],2)):=y.out.trans (if_neg (fun h=>hn (q.out.1 h).2.2.2))
     have ad:((R.n:Int)==n)=false:=by rw [beq_eq_false_iff_ne];exact hn
     rw [hk,hs];clear H;go_wp2
     go_ret2
     rw [m.out];exact ⟨rfl,B.out.alloc (by omega) _⟩
   ·have m:Hid (Xc k n s=([],2)):=y.out.trans (if_neg (fun h=>hs (q.out.1 h).2.2.1))
    have ae:(R.s==s)=false:=by rw [uW];exact decide_eq_false hs
    rw [hk];clear H;go_wp2
    go_ret2
    rw [m.out];exact ⟨rfl,B.out.alloc (by omega) _⟩
  ·have m:Hid (Xc k n s=([],2)):=y.out.trans (if_neg (fun h=>hk (q.out.1 h).2.1))
   have ah:((R.k:Int)==k)=false:=by rw [beq_eq_false_iff_ne];exact hk
   clear H;go_wp2
   go_ret2
   rw [m.out];exact ⟨rfl,B.out.alloc (by omega) _⟩
 ·have m:Hid (Xc k n s=([],2)):=y.out.trans (if_neg (fun h=>he (q.out.1 h).1))
  have af:((R.e:Int) != 0)=true:=by rw [bne_iff_ne];omega
  clear H;go_wp2
  go_ret2
  rw [m.out];exact ⟨rfl,B.out.alloc (by omega) _⟩
structure Vl where
 k:Int
 n:Int
 s:List UInt8
abbrev Ob:Type:=List UInt8 × List Vl
def YY (v:Vl):List Value:=[.int .i64 v.k,.int .i64 v.n,.string (za v.s)]
def vlC (l:List Vl):List Value:=l.flatMap YY
abbrev uv (v:Vl):Value:=.agg #[.int .i64 v.k,.int .i64 v.n,.string (za v.s)]
theorem Yx (l:List Vl):(vlC l).length=l.length*3:=by
 induction l with
 | nil=>rfl
 | cons x l ih=>unfold vlC at ih ⊢;rw [List.flatMap_cons,List.length_append,ih,List.length_cons];simp only [YY,List.length_cons,List.length_nil];omega
theorem xE (a b:List Vl):vlC (a++b)=vlC a++vlC b:=by unfold vlC;rw [List.flatMap_append]
theorem vB (v:Vl):vlC [v]=YY v:=by unfold vlC;simp
theorem Ua (l:List Vl):∀u∈vlC l,u.oneCell'=true:=by
 intro u b
 unfold vlC at b
 rw [List.mem_flatMap] at b;obtain ⟨v,_,c⟩:=b;simp only [YY,List.mem_cons,List.mem_nil_iff,or_false] at c;rcases c with rfl | rfl | rfl <;> rfl
theorem XP:∀(l:List Vl) (i:Nat) (h:i<l.length),(vlC l)[i*3]?=some (.int .i64 (l[i]).k)∧(vlC l)[i*3+1]?=some (.int .i64 (l[i]).n)∧(vlC l)[i*3+2]?=some (.string (za (l[i]).s))
 | [],_,h=>by cases h
 | t::ts,0,_=>⟨rfl,rfl,rfl⟩
 | t::ts,i+1,h=>by
  have m:=XP ts i (by simpa using h)
  have e:vlC (t::ts)=YY t++vlC ts:=rfl
  have b:∀q,(vlC (t::ts))[(i+1)*3+q]?=(vlC ts)[i*3+q]?:=fun q=>by
   rw [e,List.getElem?_append_right (by simp [YY];omega)]
   congr 1
   simp [YY]
   omega
  have c:=b 0;simp only [Nat.add_zero] at c;rw [c,b 1,b 2];exact m
def zp (S:Nat→Prop) (w:World) (v:Value) (l:List Vl):Prop :=
 ∃base cap,v=.slice base l.length cap∧l.length≤cap∧cap≤maxLen ∧
  (l=[]∨∃b o,base=some ⟨b,o,none⟩∧S b∧b<w.heap.size∧∀j u,(vlC l)[j]?=some u→w.cell? ⟨b,o+j,none⟩=some u)
theorem zp.kept {S:Nat→Prop} {w w':World} {v:Value} {l:List Vl} (h:zp S w v l) (hs:w.heap.size≤w'.heap.size) (hb:∀k,S k→k<w.heap.size→w'.heap[k]?=w.heap[k]?):zp S w' v l:=by
 obtain ⟨base,q,A,B,z,m⟩:=h;refine ⟨base,q,A,B,z,?_⟩;rcases m with m | ⟨b,o,e,y,c,D⟩
 ·exact .inl m
 ·exact .inr ⟨b,o,e,y,Nat.lt_of_lt_of_le c hs,fun j u hj=>(World.cell?_of_block (hb b y c)).trans (D j u hj)⟩
theorem zp.wide {S S':Nat→Prop} {w:World} {v:Value} {l:List Vl} (h:zp S w v l) (hS:∀k,S k→S' k):zp S' w v l:=by
 obtain ⟨base,q,y,A,u,c⟩:=h;refine ⟨base,q,y,A,u,?_⟩;rcases c with c | ⟨b,o,e,z,m,B⟩
 ·exact .inl c
 ·exact .inr ⟨b,o,e,hS b z,m,B⟩
theorem zp.low {S:Nat→Prop} {w:World} {v:Value} {l:List Vl} (h:zp S w v l):zp (fun k=>S k∧k<w.heap.size) w v l:=by
 obtain ⟨base,q,y,A,u,m⟩:=h;refine ⟨base,q,y,A,u,?_⟩;rcases m with m | ⟨b,o,e,z,c,B⟩
 ·exact .inl m
 ·exact .inr ⟨b,o,e,⟨z,c⟩,c,B⟩
theorem zp.len {S:Nat→Prop} {w:World} {v:Value} {l:List Vl} (h:zp S w v l):l.length≤maxLen:=by
 obtain ⟨_,b,_,c,e,_⟩:=h;omega
theorem zp.at {S:Nat→Prop} {w:World} {v:Value} {l:List Vl} (h:zp S w v l):∃base c,v=.slice base l.length c∧l.length≤c∧c≤maxLen ∧
  ∀i (hi:i<l.length),∃b o,base=some ⟨b,o,none⟩∧S b∧b<w.heap.size∧w.cell? ⟨b,o+i*3,none⟩=some (.int .i64 (l[i]).k)∧w.cell? ⟨b,o+i*3+1,none⟩=some (.int .i64 (l[i]).n)∧w.cell? ⟨b,o+i*3+2,none⟩=some (.string (za (l[i]).s)):=by
 obtain ⟨base,c,A,D,y,m⟩:=h;refine ⟨base,c,A,D,y,fun i hi=>?_⟩
 rcases m with m | ⟨b,o,e,B,q,u⟩
 ·subst m;simp at hi
 ·obtain ⟨E,F,z⟩:=XP l i hi
  exact ⟨b,o,e,B,q,u _ _ E,by have:=u _ _ F;rwa [←Nat.add_assoc] at this,by have:=u _ _ z;rwa [←Nat.add_assoc] at this⟩
def rightV (v:Vl) (n:Int):Bool :=
 if v.k=0 then decide (v.n=0∧v.s=[])
 else if v.k=1 then decide (v.s=[])
 else if v.k=2 then decide ((v.n=0∨v.n=1)∧v.s=[])
 else if v.k=3 then decide (v.n=0∧Zv 3 0 v.s)
 else if v.k=4 then decide ((0≤v.n∧v.n<n)∧v.s=[])
 else false
def ZZ (v:Vl) (n:Int):Bool:=decide (v.k≠0)&&rightV v n
def VG (t:List UInt8):Bool:=decide (t=[]∨Zv 1 0 t)
def XQ (o:Ob) (n:Int):Bool:=o.2.all (fun v=>ZZ v n)&&VG o.1
end Go.Proofs.YtbjndgachcdbcaaGreatDoor

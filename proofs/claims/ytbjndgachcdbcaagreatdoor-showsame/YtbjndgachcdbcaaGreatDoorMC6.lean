import Derived.Test.YtbjndgachcdbcaaGreatDoorMC5
import Derived.Maps.AppendAt
namespace Go.Proofs.YtbjndgachcdbcaaGreatDoor
open Go.RowKit Go.Shelf
set_option maxHeartbeats 16000000
set_option maxRecDepth 100000
def zJ (w : World) : Prop := Zi w ∧ Lib.TabIs Tryz.prog w "internal/strconv.uint64pow10" .u64 Lib.pow10Tab
theorem zJ.below {w w':World} {B:Nat} (h:zJ w) (hb:Below B w w') (hB:w.heap.size≤B):zJ w' :=
 ⟨h.1.below hb hB,Lib.tabBelow_of_tabIs h.2 w' (hb.mono hB)⟩
def YN (k n:Int) (s:List UInt8):List UInt8:=if k=2 then Lib.itoa n else if k=3 then yY s else s
theorem Xx (k n a b:Int) (s:List UInt8) (w:World) (hn0:-9223372036854775808≤n) (hn1:n≤9223372036854775807) (hl:s.length≤100000000) (ht:zJ w) :
  Calls Tryz.prog 52 #[.agg #[.int .i64 k,.string (za s),.int .i64 n,.int .i64 a,.int .i64 b]] w fun e w'=>e=.returned (.string (za (YN k n s)))∧Below w.heap.size w w':=by
 obtain ⟨w1,c⟩:∃w1,w1=w.alloc (.cells #[.int .i64 k,.string (za s),.int .i64 n,.int .i64 a,.int .i64 b] 103):=⟨_,rfl⟩;have m:Below w.heap.size w w1:=by rw [c];exact (Below.refl _ w).alloc (Nat.le_refl _) _
 have E:Hid (zJ w1):=ht.below m (Nat.le_refl _);have o:Hid (Below w.heap.size w w1):=m;have D:=m.size;clear ht m
 by_cases h2:k=2
 ·have B:Hid (YN k n s=Lib.itoa n):=if_pos h2
  have y:=Tryz.strconv_Itoa n hn0 hn1 w1 E.out.2;rw [c] at y;subst h2
  go_enter Tryz.func52,Tryz.ntmps52
  go_wp2_with fail
  refine y.mono ?_;clear y;rintro e A ⟨rfl,q,os,u⟩
  have h:Hid (Below w.heap.size w A):=by
   show Below w.heap.size w A
   rw [←c] at u;rw [u];exact o.out.trans (Lib.below_grow w.heap.size w1 D q os)
  clear u c;go_wp2
  go_ret
  rw [B.out];exact ⟨rfl,h.out⟩
 ·have F:(k==2)=false:=by rw [beq_eq_false_iff_ne];exact h2
  by_cases h3:k=3
  ·have B:Hid (YN k n s=yY s):=show _=_ by unfold YN;rw [if_neg h2,if_pos h3]
   have y:=vv s w1 hl E.out.1;rw [c] at y;subst h3
   go_enter Tryz.func52,Tryz.ntmps52
   go_wp2_with fail
   refine y.mono ?_;clear y;rintro e A ⟨rfl,z⟩
   have h:Hid (Below w.heap.size w A):=by
    show Below w.heap.size w A
    rw [←c] at z;exact o.out.trans (z.mono D)
   clear z c;go_wp2
   go_ret
   rw [B.out];exact ⟨rfl,h.out⟩
  ·have G:(k==3)=false:=by rw [beq_eq_false_iff_ne];exact h3
   have B:Hid (YN k n s=s):=show _=_ by unfold YN;rw [if_neg h2,if_neg h3]
   have h:Hid (Below w.heap.size w (w.alloc (.cells #[.int .i64 k,.string (za s),.int .i64 n,.int .i64 a,.int .i64 b] 103))):=by rw [←c];exact o.out
   clear c
   go_enter Tryz.func52,Tryz.ntmps52
   go_wp2
   go_ret
   rw [B.out];exact ⟨rfl,h.out⟩
def Zx (k n:Int) (s:List UInt8):Prop:=(yA (YN k n s)).e=0∧((yA (YN k n s)).k:Int)=k∧(yA (YN k n s)).s=s∧((yA (YN k n s)).n:Int)=n
instance (k n:Int) (s:List UInt8):Decidable (Zx k n s):=by unfold Zx;infer_instance
def Xy (k n:Int) (s:List UInt8):List UInt8 × Nat:=if Zx k n s then (YN k n s,0) else ([],2)
theorem YG (k n:Int) (s:List UInt8) (hn0:-9223372036854775808≤n) (hn1:n≤9223372036854775807):(YN k n s).length≤2*s.length+30:=by
 have b:∀u:Nat,u≤9223372036854775808→(Lib.decDigits u).length≤20:=fun u hu=>by
  rw [Lib.decDigits_length];rcases Nat.lt_or_ge (Lib.nDigits u) 21 with h | h
  ·omega
  ·exfalso
   have m:=Lib.nDigits_pos u
   have:∀(j u:Nat),j+1≤Lib.nDigits u→10 ^ j≤u∨j=0:=by
    intro j
    induction j with
    | zero=>intro u _;exact .inr rfl
    | succ j ih =>
     intro u e
     by_cases hu:u<10
     ·rw [Lib.nDigits_small hu] at e;omega
     ·rw [Lib.nDigits_big hu] at e
      left
      rcases ih (u / 10) (by omega) with c | c
      ·rw [Nat.pow_succ];omega
      ·subst c;omega
   rcases this 19 u (by omega) with c | c
   ·have:(10:Nat) ^ 19=10000000000000000000:=by decide
    omega
   ·omega
 unfold YN
 split
 ·unfold Lib.itoa
  split
  ·have:=b n.natAbs (by omega)
   rw [List.length_cons];omega
  ·have:=b n.toNat (by omega)
   omega
 ·split
  ·unfold yY
   have:=Xw s
   rw [List.length_cons,List.length_append,List.length_singleton];omega
  ·omega
theorem yd (k n a b:Int) (s:List UInt8) (w:World) (hn0:-9223372036854775808≤n) (hn1:n≤9223372036854775807) (hl:s.length≤100000000) (ht:zJ w) :
  Calls Tryz.prog 42 #[.agg #[.int .i64 k,.string (za s),.int .i64 n,.int .i64 a,.int .i64 b]] w fun e w'=>e=.returned (.tuple #[.string (za (Xy k n s).1),.int .i64 (Xy k n s).2])∧Below w.heap.size w w':=by
 obtain ⟨w1,u⟩:∃w1,w1=w.alloc (.cells #[.int .i64 k,.string (za s),.int .i64 n,.int .i64 0,.int .i64 0] 103):=⟨_,rfl⟩;have G:Below w.heap.size w w1:=by rw [u];exact (Below.refl _ w).alloc (Nat.le_refl _) _
 have W:w1.heap.size=w.heap.size+1:=by rw [u];simp
 have F:w1.heap[w.heap.size]?=some (.cells #[.int .i64 k,.string (za s),.int .i64 n,.int .i64 0,.int .i64 0] 103 (0,0)):=by rw [u];exact World.alloc_heap_new w _
 have HT:Hid (zJ w1):=ht.below G (Nat.le_refl _);have U:Hid (Below w.heap.size w w1):=G;have O:=Xx k n 0 0 s w1 hn0 hn1 hl HT.out;have aa:=YG k n s hn0 hn1;have y:Hid (Xy k n s=if Zx k n s then (YN k n s,0) else ([],2)):=rfl
 have q:Hid (Zx k n s↔(yA (YN k n s)).e=0∧((yA (YN k n s)).k:Int)=k∧(yA (YN k n s)).s=s∧((yA (YN k n s)).n:Int)=n):=Iff.rfl;obtain ⟨x,hx⟩:∃x,x=YN k n s:=⟨_,rfl⟩;rw [←hx] at O aa y q;obtain ⟨R,X⟩:∃R,R=yA x:=⟨_,rfl⟩;rw [←X] at q;have T:=fun wx (h:Zi wx)=>VC x wx (by omega) h
 rw [←X] at T
 unfold zE at T
 have H:=fun wx=>yW x wx (by omega)
 clear ht G hx X;rw [u] at O
 go_enter Tryz.func42,Tryz.ntmps42
 go_wp2_with fail
 refine O.mono ?_;clear O;rw [←u];rintro e Y ⟨rfl,z⟩;have I:=HT.out.below z (Nat.le_refl _);have A:=(z.block w.heap.size (by omega)).trans F
 have V:Hid (Below w.heap.size w Y):=U.out.trans (z.mono (by omega))
 have ab:w.heap.size+1≤Y.heap.size:=by rw [←W];exact z.size
 have J:=T Y I.1;clear z T u F I;go_wp2_with fail
 refine J.mono ?_;clear J;rintro e E ⟨rfl,D⟩;have c:=(D.block w.heap.size (by omega)).trans A
 have B:Hid (Below w.heap.size w E):=V.out.trans (D.mono (by omega))
 have ae:w.heap.size+1≤E.heap.size:=Nat.le_trans ab D.size;have q0:∀o,(E.alloc o).cell? ⟨w.heap.size,0,none⟩=some (.int .i64 k):=fun o=>Lib.cell?_alloc_some o (by rw [cell_of_row _ _ _ _ _ _ c];rfl)
 have q1:∀o,(E.alloc o).cell? ⟨w.heap.size,1,none⟩=some (.string (za s)):=fun o=>Lib.cell?_alloc_some o (by rw [cell_of_row _ _ _ _ _ _ c];rfl)
 have q2:∀o,(E.alloc o).cell? ⟨w.heap.size,2,none⟩=some (.int .i64 n):=fun o=>Lib.cell?_alloc_some o (by rw [cell_of_row _ _ _ _ _ _ c];rfl)
 have q3:∀o,(E.alloc o).cell? ⟨w.heap.size,3,none⟩=some (.int .i64 0):=fun o=>Lib.cell?_alloc_some o (by rw [cell_of_row _ _ _ _ _ _ c];rfl)
 have q4:∀o,(E.alloc o).cell? ⟨w.heap.size,4,none⟩=some (.int .i64 0):=fun o=>Lib.cell?_alloc_some o (by rw [cell_of_row _ _ _ _ _ _ c];rfl)
 clear D A c
 by_cases he:R.e=0
 ·rw [he]
  by_cases hk:(R.k:Int)=k
  ·by_cases hs:R.s=s
   ·by_cases hn:(R.n:Int)=n
    ·have m:Hid (Xy k n s=(x,0)):=y.out.trans (if_pos (q.out.2 ⟨he,hk,hs,hn⟩))
     rw [hk,hs,hn];have K:=H (E.alloc (.cells #[.int .i64 k,.string (za s),.int .i64 n,.int .i64 0,.int .i64 0] 103));go_wp2_with fail
     refine K.mono ?_;clear K H;rintro e w4 ⟨rfl,M⟩;have Z:Hid (Below w.heap.size w w4):=(B.out.alloc (by omega) _).trans (M.mono (by simp;omega))
     clear M;go_wp2
     go_ret2
     rw [m.out];exact ⟨rfl,Z.out⟩
    ·have m:Hid (Xy k n s=([],2)):=y.out.trans (if_neg (fun h=>hn (q.out.1 h).2.2.2))
     have ad:((R.n:Int)==n)=false:=by rw [beq_eq_false_iff_ne];exact hn
     rw [hk,hs];clear H;go_wp2
     go_ret2
     rw [m.out];exact ⟨rfl,B.out.alloc (by omega) _⟩
   ·have m:Hid (Xy k n s=([],2)):=y.out.trans (if_neg (fun h=>hs (q.out.1 h).2.2.1))
    have ah:(R.s==s)=false:=by rw [uV];exact decide_eq_false hs
    rw [hk];clear H;go_wp2
    go_ret2
    rw [m.out];exact ⟨rfl,B.out.alloc (by omega) _⟩
  ·have m:Hid (Xy k n s=([],2)):=y.out.trans (if_neg (fun h=>hk (q.out.1 h).2.1))
   have af:((R.k:Int)==k)=false:=by rw [beq_eq_false_iff_ne];exact hk
   clear H;go_wp2
   go_ret2
   rw [m.out];exact ⟨rfl,B.out.alloc (by omega) _⟩
 ·have m:Hid (Xy k n s=([],2)):=y.out.trans (if_neg (fun h=>he (q.out.1 h).1))
  have ag:((R.e:Int) != 0)=true:=by rw [bne_iff_ne];omega
  clear H;go_wp2
  go_ret2
  rw [m.out];exact ⟨rfl,B.out.alloc (by omega) _⟩
structure Vl where
 k:Int
 n:Int
 s:List UInt8
abbrev Ob:Type:=List UInt8 × List Vl
def xa (v:Vl):List Value:=[.int .i64 v.k,.int .i64 v.n,.string (za v.s)]
def vlC (l:List Vl):List Value:=l.flatMap xa
abbrev Uc (v:Vl):Value:=.agg #[.int .i64 v.k,.int .i64 v.n,.string (za v.s)]
theorem YH (l:List Vl):(vlC l).length=l.length*3:=by
 induction l with
 | nil=>rfl
 | cons x l ih=>unfold vlC at ih ⊢;rw [List.flatMap_cons,List.length_append,ih,List.length_cons];simp only [xa,List.length_cons,List.length_nil];omega
theorem xV (a b:List Vl):vlC (a++b)=vlC a++vlC b:=by unfold vlC;rw [List.flatMap_append]
theorem Vf (v:Vl):vlC [v]=xa v:=by unfold vlC;simp
theorem UD (l:List Vl):∀u∈vlC l,u.oneCell'=true:=by
 intro u b
 unfold vlC at b
 rw [List.mem_flatMap] at b;obtain ⟨v,_,c⟩:=b;simp only [xa,List.mem_cons,List.mem_nil_iff,or_false] at c;rcases c with rfl | rfl | rfl <;> rfl
theorem vw:∀(l:List Vl) (i:Nat) (h:i<l.length),(vlC l)[i*3]?=some (.int .i64 (l[i]).k)∧(vlC l)[i*3+1]?=some (.int .i64 (l[i]).n)∧(vlC l)[i*3+2]?=some (.string (za (l[i]).s))
 | [],_,h=>by cases h
 | t::ts,0,_=>⟨rfl,rfl,rfl⟩
 | t::ts,i+1,h=>by
  have m:=vw ts i (by simpa using h)
  have e:vlC (t::ts)=xa t++vlC ts:=rfl
  have b:∀q,(vlC (t::ts))[(i+1)*3+q]?=(vlC ts)[i*3+q]?:=fun q=>by
   rw [e,List.getElem?_append_right (by simp [xa];omega)]
   congr 1
   simp [xa]
   omega
  have c:=b 0;simp only [Nat.add_zero] at c;rw [c,b 1,b 2];exact m
def zk (S:Nat→Prop) (w:World) (v:Value) (l:List Vl):Prop :=
 ∃base cap,v=.slice base l.length cap∧l.length≤cap∧cap≤maxLen ∧
  (l=[]∨∃b o,base=some ⟨b,o,none⟩∧S b∧b<w.heap.size∧∀j u,(vlC l)[j]?=some u→w.cell? ⟨b,o+j,none⟩=some u)
theorem zk.kept {S:Nat→Prop} {w w':World} {v:Value} {l:List Vl} (h:zk S w v l) (hs:w.heap.size≤w'.heap.size) (hb:∀k,S k→k<w.heap.size→w'.heap[k]?=w.heap[k]?):zk S w' v l:=by
 obtain ⟨base,m,B,D,z,q⟩:=h;refine ⟨base,m,B,D,z,?_⟩;rcases q with q | ⟨b,o,e,y,c,A⟩
 ·exact .inl q
 ·exact .inr ⟨b,o,e,y,Nat.lt_of_lt_of_le c hs,fun j u hj=>(World.cell?_of_block (hb b y c)).trans (A j u hj)⟩
theorem zk.wide {S S':Nat→Prop} {w:World} {v:Value} {l:List Vl} (h:zk S w v l) (hS:∀k,S k→S' k):zk S' w v l:=by
 obtain ⟨base,c,z,B,u,q⟩:=h;refine ⟨base,c,z,B,u,?_⟩;rcases q with q | ⟨b,o,e,A,m,y⟩
 ·exact .inl q
 ·exact .inr ⟨b,o,e,hS b A,m,y⟩
theorem zk.low {S:Nat→Prop} {w:World} {v:Value} {l:List Vl} (h:zk S w v l):zk (fun k=>S k∧k<w.heap.size) w v l:=by
 obtain ⟨base,m,z,B,u,q⟩:=h;refine ⟨base,m,z,B,u,?_⟩;rcases q with q | ⟨b,o,e,A,c,y⟩
 ·exact .inl q
 ·exact .inr ⟨b,o,e,⟨A,c⟩,c,y⟩
theorem zk.len {S:Nat→Prop} {w:World} {v:Value} {l:List Vl} (h:zk S w v l):l.length≤maxLen:=by
 obtain ⟨_,b,_,e,c,_⟩:=h;omega
theorem zk.at {S:Nat→Prop} {w:World} {v:Value} {l:List Vl} (h:zk S w v l):∃base c,v=.slice base l.length c∧l.length≤c∧c≤maxLen ∧
  ∀i (hi:i<l.length),∃b o,base=some ⟨b,o,none⟩∧S b∧b<w.heap.size∧w.cell? ⟨b,o+i*3,none⟩=some (.int .i64 (l[i]).k)∧w.cell? ⟨b,o+i*3+1,none⟩=some (.int .i64 (l[i]).n)∧w.cell? ⟨b,o+i*3+2,none⟩=some (.string (za (l[i]).s)):=by
 obtain ⟨base,c,z,E,y,u⟩:=h;refine ⟨base,c,z,E,y,fun i hi=>?_⟩
 rcases u with u | ⟨b,o,e,A,q,m⟩
 ·subst u;simp at hi
 ·obtain ⟨F,D,B⟩:=vw l i hi
  exact ⟨b,o,e,A,q,m _ _ F,by have:=m _ _ D;rwa [←Nat.add_assoc] at this,by have:=m _ _ B;rwa [←Nat.add_assoc] at this⟩
def rightV (v:Vl) (n:Int):Bool :=
 if v.k=0 then decide (v.n=0∧v.s=[])
 else if v.k=1 then decide (v.s=[])
 else if v.k=2 then decide ((v.n=0∨v.n=1)∧v.s=[])
 else if v.k=3 then decide (v.n=0∧Zx 3 0 v.s)
 else if v.k=4 then decide ((0≤v.n∧v.n<n)∧v.s=[])
 else false
def ZW (v:Vl) (n:Int):Bool:=decide (v.k≠0)&&rightV v n
def ug (t:List UInt8):Bool:=decide (t=[]∨Zx 1 0 t)
def xb (o:Ob) (n:Int):Bool:=o.2.all (fun v=>ZW v n)&&ug o.1
theorem Yo {v:Vl} {n m:Int} (h:rightV v n=true) (hn:n≤m):rightV v m=true:=by
 unfold rightV at h ⊢
 split
 ·rename_i e;rw [if_pos e] at h;exact h
 ·rename_i e;rw [if_neg e] at h
  split
  ·rename_i o;rw [if_pos o] at h;exact h
  ·rename_i o;rw [if_neg o] at h
   split
   ·rename_i b;rw [if_pos b] at h;exact h
   ·rename_i b;rw [if_neg b] at h
    split
    ·rename_i c;rw [if_pos c] at h;exact h
    ·rename_i c;rw [if_neg c] at h
     split
     ·rename_i q
      rw [if_pos q,decide_eq_true_eq] at h;rw [decide_eq_true_eq];exact ⟨⟨h.1.1,by omega⟩,h.2⟩
     ·rename_i q;rw [if_neg q] at h;exact h
end Go.Proofs.YtbjndgachcdbcaaGreatDoor

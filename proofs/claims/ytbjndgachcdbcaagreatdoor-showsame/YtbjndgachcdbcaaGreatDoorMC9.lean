import Derived.Test.YtbjndgachcdbcaaGreatDoorMC6
namespace Go.Proofs.YtbjndgachcdbcaaGreatDoor
open Go.RowKit Go.Shelf
set_option maxHeartbeats 16000000
set_option maxRecDepth 100000
structure zv (S:Nat→Prop) (w w':World):Prop where
 os:w'.os=w.os
 tape:w'.tape=w.tape
 output:w'.output=w.output
 size:w.heap.size≤w'.heap.size
 block:∀k,k<w.heap.size→¬ S k→w'.heap[k]?=w.heap[k]?
theorem zv.refl (S:Nat→Prop) (w:World):zv S w w:=⟨rfl,rfl,rfl,Nat.le_refl _,fun _ _ _=>rfl⟩
theorem zv.of {S:Nat→Prop} {w w':World} (h:Below w.heap.size w w'):zv S w w':=⟨h.os,h.tape,h.output,h.size,fun k hk _=>h.block k hk⟩
theorem zv.trans {S S':Nat→Prop} {a b c:World} (h:zv S a b) (k:zv S' b c) (hS:∀i,i<a.heap.size→S' i→S i):zv S a c :=
 ⟨k.os.trans h.os,k.tape.trans h.tape,k.output.trans h.output,Nat.le_trans h.size k.size,fun i hi hn=>(k.block i (Nat.lt_of_lt_of_le hi h.size) fun hs=>hn (hS i hi hs)).trans (h.block i hi hn)⟩
theorem zv.wide {S S':Nat→Prop} {a b:World} (h:zv S a b) (hS:∀i,i<a.heap.size→S i→S' i):zv S' a b :=
 ⟨h.os,h.tape,h.output,h.size,fun k hk hn=>h.block k hk fun hs=>hn (hS k hk hs)⟩
theorem zv.below {S:Nat→Prop} {a b:World} {B:Nat} (h:zv S a b) (hB:B≤a.heap.size) (hS:∀i,S i→B≤i):Below B a b :=
 ⟨h.os,h.tape,h.output,h.size,fun k hk=>h.block k (Nat.lt_of_lt_of_le hk hB) fun hs=>by have:=hS k hs;omega⟩
theorem zv.grown {S:Nat→Prop} {a b c:World} {row:Option Nat} (h:zv S a b) (hg:b.grownBy c row) (hrow:∀k,row=some k→k<a.heap.size→S k):zv S a c :=
 ⟨hg.os.trans h.os,hg.tape.trans h.tape,hg.output.trans h.output,Nat.le_trans h.size hg.size,fun k hk hn=>(hg.block k (Nat.lt_of_lt_of_le hk h.size) fun e=>hn (hrow k e.symm hk)).trans (h.block k hk hn)⟩
theorem zv.alloc {S:Nat→Prop} {a b:World} (h:zv S a b) (o:Obj):zv S a (b.alloc o) :=
 ⟨h.os,h.tape,h.output,by have:=h.size;simp;omega,fun k hk hn=>(Below.heap_alloc _ _ _ (Nat.lt_of_lt_of_le hk h.size)).trans (h.block k hk hn)⟩
theorem zv.set {S:Nat→Prop} {a b:World} (h:zv S a b) {p:Addr} (v:Value) (hp:p.block<a.heap.size→S p.block):zv S a (b.setCell p v) :=
 ⟨h.os,h.tape,h.output,by have:=h.size;simpa using this,fun k hk hn=>(Below.heap_setCell _ _ _ _ (fun e=>hn (by subst e;exact hp hk))).trans (h.block k hk hn)⟩
def Zo:Nat→List Ob→List Value
 | _,[]=>[]
 | a,o::os=>.string (za o.1)::.int .i64 (a:Int)::.int .i64 ((a+o.2.length:Nat):Int)::Zo (a+o.2.length) os
def zq (os:List Ob):List Vl:=os.flatMap (·.2)
theorem zL (o:Ob) (os:List Ob):zq (o::os)=o.2++zq os:=by unfold zq;rw [List.flatMap_cons]
theorem Zr (os:List Ob) (o:Ob):zq (os++[o])=zq os++o.2:=by unfold zq;rw [List.flatMap_append];simp
theorem yZ:∀(a:Nat) (os:List Ob) (o:Ob),Zo a (os++[o])=Zo a os++[.string (za o.1),.int .i64 ((a+(zq os).length:Nat):Int),.int .i64 ((a+(zq os).length+o.2.length:Nat):Int)]
 | a,[],o=>by simp [Zo,zq]
 | a,x::os,o=>by
  rw [List.cons_append,Zo,Zo,yZ,zL,List.length_append];simp only [List.cons_append,Nat.add_assoc]
def fromO (os:List Ob) (i:Nat):Nat:=(zq (os.take i)).length
theorem Vg:∀(a:Nat) (os:List Ob) (i:Nat) (h:i<os.length),(Zo a os)[i*3]?=some (.string (za (os[i]).1))∧(Zo a os)[i*3+1]?=some (.int .i64 ((a+fromO os i:Nat):Int))∧(Zo a os)[i*3+2]?=some (.int .i64 ((a+fromO os i+(os[i]).2.length:Nat):Int))
 | _,[],_,h=>by cases h
 | a,o::os,0,_=>by simp [Zo,fromO,zq]
 | a,o::os,i+1,h=>by
  have m:=Vg (a+o.2.length) os i (by simpa using h)
  have e:fromO (o::os) (i+1)=o.2.length+fromO os i:=by unfold fromO;rw [List.take_succ_cons,zL,List.length_append]
  have b:∀q,(Zo a (o::os))[(i+1)*3+q]?=(Zo (a+o.2.length) os)[i*3+q]?:=fun q=>by
   rw [Zo,show (i+1)*3+q=(i*3+q)+3 by omega]
   simp only [List.getElem?_cons_succ]
  have c:=b 0;simp only [Nat.add_zero] at c;rw [c,b 1,b 2,e,←Nat.add_assoc];exact m
theorem ZX:∀(os:List Ob) (i:Nat) (h:i<os.length),fromO os i+(os[i]).2.length≤(zq os).length∧((zq os).drop (fromO os i)).take (os[i]).2.length=(os[i]).2
 | [],_,h=>by cases h
 | o::os,0,_=>by
  have e:fromO (o::os) 0=0:=rfl
  simp [e,zL]
 | o::os,i+1,h=>by
  have b:=ZX os i (by simpa using h)
  have e:fromO (o::os) (i+1)=o.2.length+fromO os i:=by unfold fromO;rw [List.take_succ_cons,zL,List.length_append]
  rw [e,zL];simp only [List.getElem_cons_succ,List.length_append];refine ⟨by omega,?_⟩
  rw [←List.drop_drop,List.drop_left];exact b.2
def zr (v:Vl):Prop:=(-9223372036854775808≤v.n∧v.n≤9223372036854775807)∧v.s.length≤1048576
def Ze (o:Ob):Prop:=o.1.length≤1048576∧∀v∈o.2,zr v
structure zs (S:Nat→Prop) (w:World) (most:Nat) (os:List Ob) (h:Nat) (vo vc:Value):Prop where
 blk:w.heap[h]?=some (.cells #[.bool true,.int .i64 (most:Int),vo,vc] 70 (0,0))
 objs:w.ownsRow 0 92 3 vo os.length (Zo 0 os)
 cells:w.ownsRow 0 56 3 vc (zq os).length (vlC (zq os))
 sh:S h
 so:∀k,vo.ownBlock=some k→S k
 sc:∀k,vc.ownBlock=some k→S k
 ok:∀o∈os,xb o os.length=true∧Ze o
 use:os.length+(zq os).length≤most
 may:most≤4096
theorem zh {w w':World} {B e sz n:Nat} {v:Value} {xs:List Value} (h:w.ownsRow B e sz v n xs) (hb:∀k,v.ownBlock=some k→k<w.heap.size→w'.heap[k]?=w.heap[k]?):w'.ownsRow B e sz v n xs:=by
 refine ⟨h.1,?_⟩;rcases h.2 with q | ⟨g,c,o,rfl,m,b,rest⟩
 ·exact .inl q
 ·exact .inr ⟨g,c,o,rfl,m,(hb g rfl (Array.getElem?_eq_some_iff.1 b).1).trans b,rest⟩
theorem zT {w:World} {B e sz n:Nat} {v:Value} {xs:List Value} (h:w.ownsRow B e sz v n xs):∃base b,v=.slice base n b∧n≤b∧b≤maxLen:=by
 rcases h.2 with ⟨rfl,rfl⟩ | ⟨g,b,o,rfl,_,_,m,c,_⟩
 ·exact ⟨_,_,rfl,Nat.le_refl _,Nat.zero_le _⟩
 ·exact ⟨_,_,rfl,m,c⟩
theorem zs.lt {S:Nat→Prop} {w:World} {most:Nat} {os:List Ob} {h:Nat} {vo vc:Value} (H:zs S w most os h vo vc):h<w.heap.size:=(Array.getElem?_eq_some_iff.1 H.blk).1
theorem zs.wide {S S':Nat→Prop} {w:World} {most:Nat} {os:List Ob} {h:Nat} {vo vc:Value} (H:zs S w most os h vo vc) (hS:∀k,k<w.heap.size→S k→S' k):zs S' w most os h vo vc :=
 { H with sh:=hS h H.lt H.sh,so:=fun k hk=>hS k (H.objs.lt k hk).2 (H.so k hk),sc:=fun k hk=>hS k (H.cells.lt k hk).2 (H.sc k hk) }
theorem zs.low {S:Nat→Prop} {w:World} {most:Nat} {os:List Ob} {h:Nat} {vo vc:Value} (H:zs S w most os h vo vc):zs (fun k=>S k∧k<w.heap.size) w most os h vo vc :=
 H.wide fun _ hk hs=>⟨hs,hk⟩
theorem zs.kept {S:Nat→Prop} {w w':World} {most:Nat} {os:List Ob} {h:Nat} {vo vc:Value} (H:zs S w most os h vo vc) (hb:∀k,S k→k<w.heap.size→w'.heap[k]?=w.heap[k]?):zs S w' most os h vo vc :=
 { H with blk:=(hb h H.sh H.lt).trans H.blk,objs:=zh H.objs fun k hk hlt=>hb k (H.so k hk) hlt,cells:=zh H.cells fun k hk hlt=>hb k (H.sc k hk) hlt }
theorem zs.below {S:Nat→Prop} {w w':World} {most:Nat} {os:List Ob} {h:Nat} {vo vc:Value} (H:zs S w most os h vo vc) (hb:Below w.heap.size w w'):zs S w' most os h vo vc:=H.kept fun k _ hk=>hb.block k hk
theorem Zy {w:World} {N:Nat} {x0 x1 x2 x3:Value} {ty:TypeId} (h:w.heap[N]?=some (.cells #[x0,x1,x2,x3] ty (0,0))) :
  w.cell? ⟨N,0,none⟩=some x0∧w.cell? ⟨N,1,none⟩=some x1∧w.cell? ⟨N,2,none⟩=some x2∧w.cell? ⟨N,3,none⟩=some x3∧∀j,w.frozen? ⟨N,j,none⟩=false:=by
 refine ⟨?_,?_,?_,?_,fun j=>?_⟩
 ·simp only [World.cell?,h];rfl
 ·simp only [World.cell?,h];rfl
 ·simp only [World.cell?,h];rfl
 ·simp only [World.cell?,h];rfl
 ·simp only [World.frozen?,h];simp
theorem yx (k:Int) (s:List UInt8) (w:World) (hl:s.length≤1048576) (ht:zJ w) :
  Calls Tryz.prog 31 #[.int .i64 k,.string (za s)] w fun e w'=>e=.returned (.bool (decide (Zx k 0 s)))∧Below w.heap.size w w':=by
 have c:=yd k 0 0 0 s w (by omega) (by omega) (by omega) ht
 clear ht
 by_cases hb:Zx k 0 s
 ·rw [show Xy k 0 s=(YN k 0 s,0) from if_pos hb] at c
  have h:Hid (decide (Zx k 0 s)=true):=decide_eq_true hb;clear hb
  go_enter Tryz.func31,Tryz.ntmps31
  go_wp2_with fail
  refine c.mono ?_;clear c;rintro e w1 ⟨rfl,b⟩;have m:Hid (Below w.heap.size w w1):=b;clear b;go_wp2
  go_ret
  rw [h.out];exact ⟨rfl,m.out⟩
 ·rw [show Xy k 0 s=([],2) from if_neg hb] at c
  have h:Hid (decide (Zx k 0 s)=false):=decide_eq_false hb;clear hb
  go_enter Tryz.func31,Tryz.ntmps31
  go_wp2_with fail
  refine c.mono ?_;clear c;rintro e w1 ⟨rfl,b⟩;have m:Hid (Below w.heap.size w w1):=b;clear b;go_wp2
  go_ret
  rw [h.out];exact ⟨rfl,m.out⟩
def zI (b:Bool):Int:=if b then 0 else 2
theorem yj (v:Vl) (n:Int) (w:World) (hv:zr v) (ht:zJ w) :
  Calls Tryz.prog 15 #[Uc v,.int .i64 n] w fun e w'=>e=.returned (.int .i64 (zI (rightV v n)))∧Below w.heap.size w w':=by
 obtain ⟨k,m,s⟩:=v;have E:s.length≤1048576:=hv.2;have K:Hid (zJ w):=ht;clear ht hv
 by_cases h0:k=0
 ·subst h0
  by_cases hm:m=0
  ·subst hm
   by_cases hs:s=[]
   ·subst hs
    have h:Hid (zI (rightV ⟨0,0,[]⟩ n)=0):=show _=_ by simp [rightV,zI]
    go_enter Tryz.func15,Tryz.ntmps15
    go_wp2
    go_ret
    rw [h.out];exact ⟨rfl,(Below.refl _ w).alloc (Nat.le_refl _) _⟩
   ·obtain ⟨a,t,rfl⟩:=List.exists_cons_of_ne_nil hs
    have h:Hid (zI (rightV ⟨0,0,a::t⟩ n)=2):=show _=_ by simp [rightV,zI]
    go_enter Tryz.func15,Tryz.ntmps15
    go_wp2
    go_ret
    rw [h.out];exact ⟨rfl,(Below.refl _ w).alloc (Nat.le_refl _) _⟩
  ·have H:(m==0)=false:=by rw [beq_eq_false_iff_ne];exact hm
   have h:Hid (zI (rightV ⟨0,m,s⟩ n)=2):=show _=_ by simp [rightV,zI,hm]
   go_enter Tryz.func15,Tryz.ntmps15
   go_wp2
   go_ret
   rw [h.out];exact ⟨rfl,(Below.refl _ w).alloc (Nat.le_refl _) _⟩
 have q:(k==0)=false:=by rw [beq_eq_false_iff_ne];exact h0
 by_cases h1:k=1
 ·subst h1
  clear q
  by_cases hs:s=[]
  ·subst hs
   have h:Hid (zI (rightV ⟨1,m,[]⟩ n)=0):=show _=_ by simp [rightV,zI]
   go_enter Tryz.func15,Tryz.ntmps15
   go_wp2
   go_ret
   rw [h.out];exact ⟨rfl,(Below.refl _ w).alloc (Nat.le_refl _) _⟩
  ·obtain ⟨a,t,rfl⟩:=List.exists_cons_of_ne_nil hs
   have h:Hid (zI (rightV ⟨1,m,a::t⟩ n)=2):=show _=_ by simp [rightV,zI]
   go_enter Tryz.func15,Tryz.ntmps15
   go_wp2
   go_ret
   rw [h.out];exact ⟨rfl,(Below.refl _ w).alloc (Nat.le_refl _) _⟩
 have u:(k==1)=false:=by rw [beq_eq_false_iff_ne];exact h1
 by_cases h2:k=2
 ·subst h2
  clear q u
  by_cases hm:m=0
  ·subst hm
   by_cases hs:s=[]
   ·subst hs
    have h:Hid (zI (rightV ⟨2,0,[]⟩ n)=0):=show _=_ by simp [rightV,zI]
    go_enter Tryz.func15,Tryz.ntmps15
    go_wp2
    go_ret
    rw [h.out];exact ⟨rfl,(Below.refl _ w).alloc (Nat.le_refl _) _⟩
   ·obtain ⟨a,t,rfl⟩:=List.exists_cons_of_ne_nil hs
    have h:Hid (zI (rightV ⟨2,0,a::t⟩ n)=2):=show _=_ by simp [rightV,zI]
    go_enter Tryz.func15,Tryz.ntmps15
    go_wp2
    go_ret
    rw [h.out];exact ⟨rfl,(Below.refl _ w).alloc (Nat.le_refl _) _⟩
  have G:(m==0)=false:=by rw [beq_eq_false_iff_ne];exact hm
  by_cases hm1:m=1
  ·subst hm1
   clear G
   by_cases hs:s=[]
   ·subst hs
    have h:Hid (zI (rightV ⟨2,1,[]⟩ n)=0):=show _=_ by simp [rightV,zI]
    go_enter Tryz.func15,Tryz.ntmps15
    go_wp2
    go_ret
    rw [h.out];exact ⟨rfl,(Below.refl _ w).alloc (Nat.le_refl _) _⟩
   ·obtain ⟨a,t,rfl⟩:=List.exists_cons_of_ne_nil hs
    have h:Hid (zI (rightV ⟨2,1,a::t⟩ n)=2):=show _=_ by simp [rightV,zI]
    go_enter Tryz.func15,Tryz.ntmps15
    go_wp2
    go_ret
    rw [h.out];exact ⟨rfl,(Below.refl _ w).alloc (Nat.le_refl _) _⟩
  have I:(m==1)=false:=by rw [beq_eq_false_iff_ne];exact hm1
  have h:Hid (zI (rightV ⟨2,m,s⟩ n)=2):=show _=_ by simp [rightV,zI,hm,hm1]
  go_enter Tryz.func15,Tryz.ntmps15
  go_wp2
  go_ret
  rw [h.out];exact ⟨rfl,(Below.refl _ w).alloc (Nat.le_refl _) _⟩
 have B:(k==2)=false:=by rw [beq_eq_false_iff_ne];exact h2
 by_cases h3:k=3
 ·subst h3
  clear q u B
  by_cases hm:m=0
  ·subst hm
   obtain ⟨w1,o⟩:∃w1,w1=w.alloc (.cells #[.int .i64 3,.int .i64 0,.string (za s)] 56):=⟨_,rfl⟩;have y:Below w.heap.size w w1:=by rw [o];exact (Below.refl _ w).alloc (Nat.le_refl _) _
   have M:w1.heap.size=w.heap.size+1:=by rw [o];simp
   have c:=yx 3 s w1 E (K.out.below y (Nat.le_refl _));have D:Hid (Below w.heap.size w w1):=y;have h:Hid (rightV ⟨3,0,s⟩ n=decide (Zx 3 0 s)):=show _=_ by simp [rightV]
   generalize decide (Zx 3 0 s)=b at *;rw [o] at c;clear y
   go_enter Tryz.func15,Tryz.ntmps15
   go_wp2_with fail
   refine c.mono ?_;clear c;rw [←o];rintro e J ⟨rfl,A⟩;have z:Hid (Below w.heap.size w J):=D.out.trans (A.mono (by omega))
   clear A o;cases b with
   | true =>
    go_wp2
    go_ret
    rw [h.out];exact ⟨rfl,z.out⟩
   | false =>
    go_wp2
    go_ret
    rw [h.out];exact ⟨rfl,z.out⟩
  ·have H:(m==0)=false:=by rw [beq_eq_false_iff_ne];exact hm
   have h:Hid (zI (rightV ⟨3,m,s⟩ n)=2):=show _=_ by simp [rightV,zI,hm]
   go_enter Tryz.func15,Tryz.ntmps15
   go_wp2
   go_ret
   rw [h.out];exact ⟨rfl,(Below.refl _ w).alloc (Nat.le_refl _) _⟩
 have F:(k==3)=false:=by rw [beq_eq_false_iff_ne];exact h3
 by_cases h4:k=4
 ·subst h4
  clear q u B F
  by_cases hm:0≤m
  ·by_cases hn:m<n
   by_cases hs:s=[]
   ·subst hs
    have h:Hid (zI (rightV ⟨4,m,[]⟩ n)=0):=show _=_ by simp [rightV,zI,hm,hn]
    go_enter Tryz.func15,Tryz.ntmps15
    go_wp2
    go_ret
    rw [h.out];exact ⟨rfl,(Below.refl _ w).alloc (Nat.le_refl _) _⟩
   ·obtain ⟨a,t,rfl⟩:=List.exists_cons_of_ne_nil hs
    have h:Hid (zI (rightV ⟨4,m,a::t⟩ n)=2):=show _=_ by simp [rightV,zI]
    go_enter Tryz.func15,Tryz.ntmps15
    go_wp2
    go_ret
    rw [h.out];exact ⟨rfl,(Below.refl _ w).alloc (Nat.le_refl _) _⟩
   have h:Hid (zI (rightV ⟨4,m,s⟩ n)=2):=show _=_ by simp [rightV,zI];omega
   go_enter Tryz.func15,Tryz.ntmps15
   go_wp2
   go_ret
   rw [h.out];exact ⟨rfl,(Below.refl _ w).alloc (Nat.le_refl _) _⟩
  have h:Hid (zI (rightV ⟨4,m,s⟩ n)=2):=show _=_ by simp [rightV,zI];omega
  go_enter Tryz.func15,Tryz.ntmps15
  go_wp2
  go_ret
  rw [h.out];exact ⟨rfl,(Below.refl _ w).alloc (Nat.le_refl _) _⟩
 have O:(k==4)=false:=by rw [beq_eq_false_iff_ne];exact h4
 have h:Hid (zI (rightV ⟨k,m,s⟩ n)=2):=show _=_ by simp [rightV,zI,h0,h1,h2,h3,h4]
 go_enter Tryz.func15,Tryz.ntmps15
 go_wp2
 go_ret
 rw [h.out];exact ⟨rfl,(Below.refl _ w).alloc (Nat.le_refl _) _⟩
end Go.Proofs.YtbjndgachcdbcaaGreatDoor

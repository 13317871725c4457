import Derived.Test.YtmbofhpmockmbaaGreatDoorMC21
namespace Go.Proofs.YtmbofhpmockmbaaGreatDoor
open Go.RowKit Go.Shelf
set_option maxHeartbeats 16000000
set_option maxRecDepth 100000
def inL (xs:List (List UInt8)) (l:List UInt8):Bool:=xs.contains l
theorem q7 (xs:List (List UInt8)) (l:List UInt8) (g cap:Nat) (w:World) (A:xs.length≤1000) (hc:∀j (h:j<xs.length),w.cell? ⟨g,j,none⟩=some (.string (za xs[j]))) :
  Calls Tryz.prog 148 #[.slice (some ⟨g,0,none⟩) xs.length cap,.string (za l)] w fun e w'=>e=.returned (.bool (inL xs l))∧w=w':=by
 have I:Hid (∀j (h:j<xs.length),w.cell? ⟨g,j,none⟩=some (.string (za xs[j]))):=hc;clear hc
 go_enter Tryz.func148,Tryz.ntmps148
 go_wp2
 go_loop [5] (fun v=>∃i:Nat,i≤xs.length∧v=.int .i64 i∧∀x∈xs.take i,x≠l) (fun v=>xs.length-(intOf v).toNat)
 case atStart=>exact ⟨0,Nat.zero_le _,rfl,fun x A=>by simp at A⟩
 case round =>
  obtain ⟨i,K,rfl,o⟩:=hrel;have G:Hid (∀x∈xs.take i,x≠l):=o;clear o
  by_cases hlt:i<xs.length
  ·have z:=I.out i hlt
   obtain ⟨x,A⟩:∃x,x=xs[i]'hlt:=⟨_,rfl⟩;rw [←A] at z;have E:Hid (x=xs[i]'hlt):=A;clear A
   by_cases he:x=l
   ·subst he
    have D:Hid (inL xs x=true):=show xs.contains x=true by rw [List.contains_iff_mem,E.out];exact List.getElem_mem hlt
    go_wp2
    go_ret
    rw [D.out];exact ⟨rfl,rfl⟩
   ·have H:Hid (x≠l):=he
    have J:(x==l)=false:=by rw [zaL];exact decide_eq_false he
    clear he;go_wp2
    refine ⟨⟨i+1,by omega,by go_num,fun y hy=>?_⟩,?_⟩
    ·rw [List.take_succ_eq_append_getElem hlt] at hy
     rcases List.mem_append.1 hy with h | h
     ·exact G.out y h
     ·rw [List.mem_singleton] at h;rw [h,←E.out];exact H.out
    ·simp [intOf];omega
  ·obtain rfl:i=xs.length:=by omega
   have D:Hid (inL xs l=false):=show xs.contains l=false by
    rw [Bool.eq_false_iff,ne_eq,List.contains_iff_mem];intro h;exact G.out l (by rw [List.take_length];exact h) rfl
   go_wp2
   go_ret
   rw [D.out];exact ⟨rfl,rfl⟩
theorem VV (w:World) :
  Calls Tryz.prog 149 #[] w fun e w'=>e=.returned (.slice (some ⟨w.heap.size,0,none⟩) 10 10)∧w'=w.alloc (.cells (wordsL.map fun x=>Value.string (za x)).toArray 9):=by
 go_enter Tryz.func149,Tryz.ntmps149
 go_wp2
 go_ret
 exact ⟨rfl,rfl⟩
theorem Xm (l:List UInt8) (w:World) :
  Calls Tryz.prog 130 #[.string (za l)] w fun e w'=>e=.returned (.bool (ZB l))∧Below w.heap.size w w':=by
 have o:Below w.heap.size w (w.alloc (.cells (wordsL.map fun x=>Value.string (za x)).toArray 9)):=(Below.refl _ w).alloc (Nat.le_refl _) _
 have z:Hid (Calls Tryz.prog 148 #[.slice (some ⟨w.heap.size,0,none⟩) 10 10,.string (za l)] (w.alloc (.cells (wordsL.map fun x=>Value.string (za x)).toArray 9)) fun e w'=>e=.returned (.bool (inL wordsL l))∧(w.alloc (.cells (wordsL.map fun x=>Value.string (za x)).toArray 9))=w') :=
  q7 wordsL l w.heap.size 10 _ (by decide) (fun j h=>by
   rw [cell_of_row _ _ _ _ _ _ (World.alloc_heap_new w _)]
   simp [h])
 have y:Hid (Below w.heap.size w (w.alloc (.cells (wordsL.map fun x=>Value.string (za x)).toArray 9))):=o
 clear o
 go_enter Tryz.func130,Tryz.ntmps130
 go_wp2_with fail
 refine (VV w).mono ?_;rintro e D ⟨rfl,rfl⟩;go_wp2_with fail
 refine z.out.mono ?_;rintro e A ⟨rfl,rfl⟩;go_wp2
 go_ret
 exact ⟨rfl,y.out⟩
theorem yi (n:Nat) (w:World) (hn:n<256) :
  Calls Tryz.prog 129 #[.int .u8 n] w fun e w'=>e=.returned (.bool (zE n))∧w=w':=by
 go_enter Tryz.func129,Tryz.ntmps129
 go_wp2
 all_goals go_ret
 all_goals refine ⟨uh ?_,rfl⟩
 all_goals (rw [Bool.eq_iff_iff];simp [zE];try omega)
theorem Z1 (n:Nat) (w:World) (hn:n<256) :
  Calls Tryz.prog 128 #[.int .u8 n] w fun e w'=>e=.returned (.bool (zM n))∧w=w':=by
 go_enter Tryz.func128,Tryz.ntmps128
 go_wp2
 all_goals go_ret
 all_goals refine ⟨uh ?_,rfl⟩
 all_goals (rw [Bool.eq_iff_iff];simp [zM];try omega)
theorem x8 (c:UInt8):∀(l:List UInt8) (a:Nat),valA a (l++[c])=valA a l*10+(c.toNat-48)
 | [],_=>rfl
 | x::l,a=>x8 c l (a*10+(x.toNat-48))
theorem UM (a b:List UInt8):∀e,valA e (a++b)=valA (valA e a) b:=by
 induction a with
 | nil=>intro e;rfl
 | cons x a ih=>intro e;exact ih _
theorem VW (l:List UInt8) (i:Nat):valA 0 (l.take i)≤valA 0 l:=by
 have h:=UM (l.take i) (l.drop i) 0;rw [List.take_append_drop] at h;rw [h];exact VE _ _
def QW (l:List UInt8):Int:=if valA 0 l<9223372036854775808 then ((valA 0 l:Nat):Int) else -1
theorem xq (l:List UInt8) (w:World) (hl:l.length≤5000) (hd:∀c∈l,zE c.toNat=true) :
  Calls Tryz.prog 131 #[.string (za l)] w fun e w'=>e=.returned (.int .i64 (QW l))∧w=w':=by
 have K:(za l).size=l.length:=rfl
 go_enter Tryz.func131,Tryz.ntmps131
 go_wp2
 go_loop [3,4] (fun vn vi=>∃i:Nat,i≤l.length∧vn=.int .i64 (valA 0 (l.take i):Nat)∧vi=.int .i64 i∧valA 0 (l.take i)<9223372036854775808) (fun _ vi=>l.length-(intOf vi).toNat)
 case atStart=>exact ⟨0,Nat.zero_le _,rfl,rfl,by rw [List.take_zero];decide⟩
 case round =>
  obtain ⟨i,Q,rfl,rfl,h⟩:=hrel
  by_cases hlt:i<l.length
  ·have z:=fun wx=>ZT wx l i hlt
   have y:=hd l[i] (List.getElem_mem hlt);have o:=x8 l[i] (l.take i) 0;rw [←List.take_succ_eq_append_getElem hlt] at o;have D:=VW l (i+1);obtain ⟨c,L⟩:∃c,c=(l[i]).toNat:=⟨_,rfl⟩;rw [←L] at z y o
   unfold zE at y
   rw [Bool.and_eq_true,decide_eq_true_eq,decide_eq_true_eq] at y;obtain ⟨d,rfl⟩:∃d,c=d+48:=⟨c-48,by omega⟩
   rw [Nat.add_sub_cancel] at o;have J:d≤9:=by omega
   obtain ⟨N,G⟩:∃N,N=valA 0 (l.take i):=⟨_,rfl⟩;rw [←G] at o h ⊢;have O:Hid (N=valA 0 (l.take i)):=G;have A:Hid (valA 0 (l.take (i+1))=N*10+d):=o;have I:Hid (valA 0 (l.take (i+1))≤valA 0 l):=D;have E:((d+48:Nat):Int)=(d:Int)+48:=by omega
   simp only [E] at z;clear G o D hd y
   by_cases h63:N*10+d<9223372036854775808
   ·have M:((9223372036854775807-(d:Int)).tdiv 10<(N:Int))=False:=by
     rw [Int.tdiv_eq_ediv_of_nonneg (by omega)];simp;omega
    go_wp2
    refine ⟨⟨i+1,by omega,?_,by go_num,by rw [A.out];exact h63⟩,?_⟩
    ·rw [A.out]
     congr 1
     omega
    ·simp [intOf];omega
   ·have H:Hid (QW l=-1):=if_neg (by have:=I.out;rw [A.out] at this;omega)
    have M:((9223372036854775807-(d:Int)).tdiv 10<(N:Int))=True:=by
     rw [Int.tdiv_eq_ediv_of_nonneg (by omega)];simp;omega
    go_wp2
    go_ret
    rw [H.out];exact ⟨rfl,rfl⟩
  ·obtain rfl:i=l.length:=by omega
   rw [List.take_length] at h ⊢;have H:Hid (QW l=((valA 0 l:Nat):Int)):=if_pos h;clear hd;go_wp2
   go_ret
   rw [H.out];exact ⟨rfl,rfl⟩
end Go.Proofs.YtmbofhpmockmbaaGreatDoor
namespace Go.Proofs.YtmbofhpmockmbaaGreatDoor
open Go.RowKit
set_option maxHeartbeats 16000000
set_option maxRecDepth 100000
theorem UN {c:UInt8} (t:List UInt8) (h:zB c.toNat=true):ZL (c::t)=ZL t+1:=by
 have e:Ze zB (c::t)=Ze zB t+1:=by
  unfold Ze;rw [List.takeWhile_cons_of_pos (p:=fun c:UInt8=>zB c.toNat) h,List.length_cons]
 rw [YB,YB t,e,List.drop_succ_cons];omega
theorem QX {r:List UInt8} (h:Yg r=true):ZL r=Ze zS r+ZL (r.drop (Ze zS r)):=by
 have e:Ze zB r=0:=by
  obtain ⟨t,rfl⟩:=Vd h
  unfold Ze
  rw [List.takeWhile_cons_of_neg (by decide)]
  rfl
 rw [YB,e,List.drop_zero,Nat.zero_add]
 unfold Xq
 rw [if_pos h]
theorem X2 {c:UInt8} {t:List UInt8} (hb:zB c.toNat=false) (hr:Yg (c::t)=false):ZL (c::t)=0:=by
 have e:Ze zB (c::t)=0:=by
  unfold Ze;rw [List.takeWhile_cons_of_neg (by simp [hb])];rfl
 rw [YB,e,List.drop_zero,Nat.zero_add]
 unfold Xq
 rw [if_neg (by simp [hr])]
theorem x9 {x:UInt8} {r:List UInt8}:Yg (x::r)=(decide (x.toNat=47)&&(match r with | []=>false | y::_=>decide (y.toNat=47))):=by
 have o:∀y:UInt8,((47:UInt8)==y)=decide (y.toNat=47):=fun y=>by
  by_cases h:y=47
  ·subst h;rfl
  ·have z:y.toNat≠47:=fun e=>h (UInt8.toNat_inj.1 e)
   rw [decide_eq_false z,beq_eq_false_iff_ne];exact Ne.symm h
 unfold Yg Lib.hasPrefix
 cases r with
 | nil=>simp [List.isPrefixOf]
 | cons y r=>simp only [List.isPrefixOf];rw [o,o,Bool.and_true]
theorem Yd (a b:List UInt8) (c:UInt8):Lib.countByte (a++b) c=Lib.countByte a c+Lib.countByte b c:=by
 unfold Lib.countByte
 exact List.count_append
theorem X3 {l:List UInt8} {line line' a b:Nat} (f:Nat) (hp:zn l a=zn l b) (hl:Zc l line a=Zc l line' b):scanS l f line a=scanS l f line' b:=by
 have e:zv l a=zv l b:=by
  show zF (l.drop (zn l a))=zF (l.drop (zn l b))
  rw [hp]
 have h:tkT l line a=tkT l line' b:=by
  unfold tkT
  rw [e,hl,hp]
 cases f with
 | zero=>rfl
 | succ f =>
  unfold scanS
  rw [e,h,hl,hp]
theorem Y1 {l:List UInt8} {a:Nat} (f line:Nat) (h:a<l.length) (hb:zB (l[a]).toNat=true) :
  scanS l f line a=scanS l f (if (l[a]).toNat=10 then line+1 else line) (a+1):=by
 have hd:l.drop a=l[a]::l.drop (a+1):=List.drop_eq_getElem_cons h;have y:ZL (l.drop a)=ZL (l.drop (a+1))+1:=by rw [hd];exact UN _ hb
 refine X3 f ?_ ?_
 ·unfold zn;omega
 ·unfold Zc
  rw [y,hd,List.take_succ_cons];show line+Lib.countByte ([l[a]]++(l.drop (a+1)).take (ZL (l.drop (a+1)))) 10=_
  rw [Yd]
  by_cases h10:(l[a]).toNat=10
  ·rw [if_pos h10]
   have:l[a]=10:=UInt8.toNat_inj.1 h10
   rw [this]
   have:Lib.countByte [10] 10=1:=by decide
   omega
  ·rw [if_neg h10]
   have o:l[a]≠10:=fun e=>h10 (by rw [e];rfl)
   have:Lib.countByte [l[a]] 10=0:=by
    unfold Lib.countByte
    simp [o]
   omega
theorem q8 (r:List UInt8):Lib.countByte (r.take (Ze zS r)) 10=0:=by
 unfold Ze
 rw [Yo]
 have o:∀c∈r.takeWhile (fun c=>zS c.toNat),c≠10:=fun c hc=>by
  have:=Y6 (p:=fun c=>zS c.toNat) r c hc
  intro e;rw [e] at this;exact absurd this (by decide)
 generalize r.takeWhile (fun c=>zS c.toNat)=x at o
 unfold Lib.countByte
 simp only [List.count_eq_zero];intro h;exact o 10 h rfl
theorem Vv {l:List UInt8} {a:Nat} (f line:Nat) (h:Yg (l.drop a)=true) :
  scanS l f line a=scanS l f line (a+Ze zS (l.drop a)):=by
 have e:=QX h;rw [List.drop_drop] at e;refine X3 f ?_ ?_
 ·unfold zn;omega
 ·unfold Zc
  rw [e,List.take_add,Yd,q8,List.drop_drop];omega
def Z2 (pre:List Tk) (X:List Tk × Nat × Nat):List Tk × Nat × Nat:=if X.2.2≠0 then ([],X.2.1,X.2.2) else (pre++X.1,0,0)
theorem q9 (f:Nat) (l:List UInt8) (line a:Nat):Z2 [] (scanS l f line a)=scanS l f line a:=by
 unfold Z2
 cases f with
 | zero=>rfl
 | succ f =>
  rw [scanS]
  by_cases he:(zv l a).e≠0
  ·rw [if_pos he,if_pos he]
  ·rw [if_neg he]
   by_cases hk:(zv l a).k=0
   ·rw [if_pos hk];rfl
   ·rw [if_neg hk]
    generalize scanS l f (Zc l line a) (zn l a+(zv l a).sz)=A
    by_cases hA:A.2.2≠0
    ·rw [if_pos hA,if_pos hA]
    ·rw [if_neg hA];rfl
theorem Xa {l:List UInt8} {a:Nat} (f line:Nat) (pre:List Tk) (hg:ZL (l.drop a)=0) (ha:a<l.length) :
  ((zF (l.drop a)).e≠0→Z2 pre (scanS l (f+1) line a)=([],a,(zF (l.drop a)).e)) ∧
  ((zF (l.drop a)).e=0→Z2 pre (scanS l (f+1) line a)=Z2 (pre++[⟨(zF (l.drop a)).k,(zF (l.drop a)).s,(zF (l.drop a)).n,line,a⟩]) (scanS l f line (a+(zF (l.drop a)).sz))∧1≤(zF (l.drop a)).sz∧a+(zF (l.drop a)).sz≤l.length):=by
 have y:zn l a=a:=by unfold zn;rw [hg];rfl
 have z:zv l a=zF (l.drop a):=by show zF (l.drop (zn l a))=_;rw [y]
 have E:Zc l line a=line:=by unfold Zc;rw [hg];rfl
 have G:tkT l line a=⟨(zF (l.drop a)).k,(zF (l.drop a)).s,(zF (l.drop a)).n,line,a⟩:=by unfold tkT;rw [z,E,y]
 constructor
 ·intro h
  unfold scanS
  rw [z,if_pos h,y]
  unfold Z2
  rw [if_pos h]
 ·intro h
  have D:=xJ (l.drop a) h
  have o:(zF (l.drop a)).k≠0:=fun o=>by
   have H:=D.2.2 o
   have:=congrArg List.length H
   rw [List.length_drop,List.length_nil] at this;omega
  refine ⟨?_,D.2.1 o,by have:=D.1;rw [List.length_drop] at this;omega⟩
  rw [scanS,z,if_neg (by simp [h]),if_neg o,E,y,G]
  generalize scanS l f line (a+(zF (l.drop a)).sz)=A
  unfold Z2
  by_cases hA:A.2.2≠0
  ·rw [if_pos hA,if_pos hA,if_pos hA]
  ·rw [if_neg hA,if_neg (by simp),if_neg hA]
   simp
theorem Qa (l:List UInt8) (f line:Nat) (pre:List Tk):Z2 pre (scanS l (f+1) line l.length)=(pre++[⟨0,[],0,line,l.length⟩],0,0):=by
 have hd:l.drop l.length=[]:=List.drop_length;have h:zn l l.length=l.length:=by unfold zn;rw [hd,uq];rfl
 have e:zv l l.length=⟨0,[],0,0,0⟩:=by show zF (l.drop (zn l l.length))=_;rw [h,hd];rfl
 have y:Zc l line l.length=line:=by unfold Zc;rw [hd,uq];rfl
 have o:tkT l line l.length=⟨0,[],0,line,l.length⟩:=by unfold tkT;rw [e,y,h]
 unfold scanS
 rw [e,if_neg (by simp),if_pos rfl,o]
 rfl
def refSigns:List (List UInt8):=[[61,61],[33,61],[60,61],[62,61],[38,38],[124,124],[40],[41],[123],[125],[91],[93],[44],[58],[59],[46],[61],[60],[62],[43],[45],[42],[47],[37],[33]]
theorem QY {l x y:List UInt8} (hx:Lib.hasPrefix l x=true) (hy:Lib.hasPrefix l y=true) (h:x.length=y.length):x=y:=by
 unfold Lib.hasPrefix at hx hy
 have o:=List.prefix_iff_eq_take.1 (List.isPrefixOf_iff_prefix.1 hx);have e:=List.prefix_iff_eq_take.1 (List.isPrefixOf_iff_prefix.1 hy);rw [o,e,h]
theorem uK (l:List UInt8):∀(xs:List (List UInt8)) (b:List UInt8),b.length≤(xs.foldl (longer l) b).length∧(∀x∈xs,Lib.hasPrefix l x=true→x.length≤(xs.foldl (longer l) b).length) ∧
  (xs.foldl (longer l) b=b∨(xs.foldl (longer l) b∈xs∧Lib.hasPrefix l (xs.foldl (longer l) b)=true))
 | [],b=>⟨Nat.le_refl _,(fun x h=>by cases h),.inl rfl⟩
 | x::xs,b=>by
  rw [List.foldl_cons];obtain ⟨i1,z,D⟩:=uK l xs (longer l b x)
  have A:b.length≤(longer l b x).length:=by
   unfold longer
   split
   ·rename_i h;omega
   ·exact Nat.le_refl _
  refine ⟨Nat.le_trans A i1,fun y o hp=>?_,?_⟩
  ·rcases List.mem_cons.1 o with rfl | o
   ·refine Nat.le_trans ?_ i1
    unfold longer
    split
    ·exact Nat.le_refl _
    ·rename_i h
     rcases Nat.lt_or_ge b.length y.length with e | e
     ·exact absurd ⟨e,hp⟩ h
     ·exact e
   ·exact z y o hp
  ·rcases D with h | ⟨G,E⟩
   ·rw [h]
    unfold longer
    split
    ·rename_i e;exact .inr ⟨List.mem_cons_self ..,e.2⟩
    ·exact .inl rfl
   ·exact .inr ⟨List.mem_cons_of_mem _ G,E⟩
theorem xM (l:List UInt8):(∀x∈signsL,Lib.hasPrefix l x=true→x.length≤(bestS l 25).length)∧(bestS l 25=[]∨(bestS l 25∈signsL∧Lib.hasPrefix l (bestS l 25)=true)):=by
 have h:=uK l signsL [];have e:bestS l 25=signsL.foldl (longer l) []:=by unfold bestS;rw [List.take_of_length_le (by decide)]
 rw [e];exact h.2
theorem QZ {l:List UInt8} {i:Nat} (hi:i<refSigns.length) (hno:∀x∈refSigns.take i,Lib.hasPrefix l x=false) (hp:Lib.hasPrefix l (refSigns[i]'hi)=true):bestS l 25=refSigns[i]'hi:=by
 obtain ⟨L,e⟩:=xM l;have G:∀x∈refSigns,x∈signsL:=by decide
 have K:∀x∈signsL,x∈refSigns:=by decide
 have J:∀x∈refSigns,1≤x.length:=by decide
 have I:∀(a:Nat) (ha:a<25) (b:Nat) (hb:b<25),a≤b→((refSigns[b]'hb).length≤(refSigns[a]'ha).length):=by decide
 have o:=L _ (G _ (List.getElem_mem hi)) hp;have D:=J _ (List.getElem_mem hi);rcases e with e | ⟨e,A⟩
 ·rw [e,List.length_nil] at o
  omega
 ·obtain ⟨j,H,E⟩:=List.getElem_of_mem (K _ e)
  have z:i≤j:=by
   rcases Nat.lt_or_ge j i with h | h
   ·have:=hno _ (List.mem_take_iff_getElem.2 ⟨j,by omega,rfl⟩)
    rw [E,A] at this;cases this
   ·exact h
  have y:=I i hi j H z;rw [E] at y;exact QY A hp (Nat.le_antisymm y o)
theorem Qb {l:List UInt8} (hno:∀x∈refSigns,Lib.hasPrefix l x=false):bestS l 25=[]:=by
 obtain ⟨-,e⟩:=xM l;have o:∀x∈signsL,x∈refSigns:=by decide
 rcases e with e | ⟨e,h⟩
 ·exact e
 ·rw [hno _ (o _ e)] at h;cases h
end Go.Proofs.YtmbofhpmockmbaaGreatDoor

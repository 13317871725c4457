import Derived.Test.YtmbofhpmockmbaaGreatDoorMC22
namespace Go.Proofs.YtmbofhpmockmbaaGreatDoor
open Go.RowKit Go.Shelf
set_option maxHeartbeats 16000000
set_option maxRecDepth 100000
def inL (xs:List (List UInt8)) (l:List UInt8):Bool:=xs.contains l
theorem qE (xs:List (List UInt8)) (l:List UInt8) (g cap:Nat) (w:World) (A:xs.length≤1000) (hc:∀j (h:j<xs.length),w.cell? ⟨g,j,none⟩=some (.string (za xs[j]))) :
  Calls Tryz.prog 148 #[.slice (some ⟨g,0,none⟩) xs.length cap,.string (za l)] w fun e w'=>e=.returned (.bool (inL xs l))∧w=w':=by
 have H:Hid (∀j (h:j<xs.length),w.cell? ⟨g,j,none⟩=some (.string (za xs[j]))):=hc;clear hc
 go_enter Tryz.func148,Tryz.ntmps148
 go_wp2
 go_loop [5] (fun v=>∃i:Nat,i≤xs.length∧v=.int .i64 i∧∀x∈xs.take i,x≠l) (fun v=>xs.length-(intOf v).toNat)
 case atStart=>exact ⟨0,Nat.zero_le _,rfl,fun x A=>by simp at A⟩
 case round =>
  obtain ⟨i,J,rfl,o⟩:=hrel;have G:Hid (∀x∈xs.take i,x≠l):=o;clear o
  by_cases hlt:i<xs.length
  ·have z:=H.out i hlt
   obtain ⟨x,A⟩:∃x,x=xs[i]'hlt:=⟨_,rfl⟩;rw [←A] at z;have E:Hid (x=xs[i]'hlt):=A;clear A
   by_cases he:x=l
   ·subst he
    have D:Hid (inL xs x=true):=show xs.contains x=true by rw [List.contains_iff_mem,E.out];exact List.getElem_mem hlt
    go_wp2
    go_ret
    rw [D.out];exact ⟨rfl,rfl⟩
   ·have I:Hid (x≠l):=he
    have K:(x==l)=false:=by rw [zao];exact decide_eq_false he
    clear he;go_wp2
    refine ⟨⟨i+1,by omega,by go_num,fun y hy=>?_⟩,?_⟩
    ·rw [List.take_succ_eq_append_getElem hlt] at hy
     rcases List.mem_append.1 hy with h | h
     ·exact G.out y h
     ·rw [List.mem_singleton] at h;rw [h,←E.out];exact I.out
    ·simp [intOf];omega
  ·obtain rfl:i=xs.length:=by omega
   have D:Hid (inL xs l=false):=show xs.contains l=false by
    rw [Bool.eq_false_iff,ne_eq,List.contains_iff_mem];intro h;exact G.out l (by rw [List.take_length];exact h) rfl
   go_wp2
   go_ret
   rw [D.out];exact ⟨rfl,rfl⟩
theorem VB (w:World) :
  Calls Tryz.prog 149 #[] w fun e w'=>e=.returned (.slice (some ⟨w.heap.size,0,none⟩) 10 10)∧w'=w.alloc (.cells (wordsL.map fun x=>Value.string (za x)).toArray 9):=by
 go_enter Tryz.func149,Tryz.ntmps149
 go_wp2
 go_ret
 exact ⟨rfl,rfl⟩
theorem Xc (l:List UInt8) (w:World) :
  Calls Tryz.prog 130 #[.string (za l)] w fun e w'=>e=.returned (.bool (Zv l))∧Below w.heap.size w w':=by
 have o:Below w.heap.size w (w.alloc (.cells (wordsL.map fun x=>Value.string (za x)).toArray 9)):=(Below.refl _ w).alloc (Nat.le_refl _) _
 have z:Hid (Calls Tryz.prog 148 #[.slice (some ⟨w.heap.size,0,none⟩) 10 10,.string (za l)] (w.alloc (.cells (wordsL.map fun x=>Value.string (za x)).toArray 9)) fun e w'=>e=.returned (.bool (inL wordsL l))∧(w.alloc (.cells (wordsL.map fun x=>Value.string (za x)).toArray 9))=w') :=
  qE wordsL l w.heap.size 10 _ (by decide) (fun j h=>by
   rw [cell_of_row _ _ _ _ _ _ (World.alloc_heap_new w _)]
   simp [h])
 have y:Hid (Below w.heap.size w (w.alloc (.cells (wordsL.map fun x=>Value.string (za x)).toArray 9))):=o
 clear o
 go_enter Tryz.func130,Tryz.ntmps130
 go_wp2_with fail
 refine (VB w).mono ?_;rintro e D ⟨rfl,rfl⟩;go_wp2_with fail
 refine z.out.mono ?_;rintro e A ⟨rfl,rfl⟩;go_wp2
 go_ret
 exact ⟨rfl,y.out⟩
theorem ye (n:Nat) (w:World) (hn:n<256) :
  Calls Tryz.prog 129 #[.int .u8 n] w fun e w'=>e=.returned (.bool (zC n))∧w=w':=by
 go_enter Tryz.func129,Tryz.ntmps129
 go_wp2
 all_goals go_ret
 all_goals refine ⟨VT ?_,rfl⟩
 all_goals (rw [Bool.eq_iff_iff];simp [zC];try omega)
theorem ZY (n:Nat) (w:World) (hn:n<256) :
  Calls Tryz.prog 128 #[.int .u8 n] w fun e w'=>e=.returned (.bool (zK n))∧w=w':=by
 go_enter Tryz.func128,Tryz.ntmps128
 go_wp2
 all_goals go_ret
 all_goals refine ⟨VT ?_,rfl⟩
 all_goals (rw [Bool.eq_iff_iff];simp [zK];try omega)
theorem xR (c:UInt8):∀(l:List UInt8) (a:Nat),valA a (l++[c])=valA a l*10+(c.toNat-48)
 | [],_=>rfl
 | x::l,a=>xR c l (a*10+(x.toNat-48))
theorem Ut (a b:List UInt8):∀e,valA e (a++b)=valA (valA e a) b:=by
 induction a with
 | nil=>intro e;rfl
 | cons x a ih=>intro e;exact ih _
theorem VC (l:List UInt8) (i:Nat):valA 0 (l.take i)≤valA 0 l:=by
 have h:=Ut (l.take i) (l.drop i) 0;rw [List.take_append_drop] at h;rw [h];exact Vj _ _
def Qy (l:List UInt8):Int:=if valA 0 l<9223372036854775808 then ((valA 0 l:Nat):Int) else -1
theorem xd (l:List UInt8) (w:World) (hl:l.length≤5000) (hd:∀c∈l,zC c.toNat=true) :
  Calls Tryz.prog 131 #[.string (za l)] w fun e w'=>e=.returned (.int .i64 (Qy l))∧w=w':=by
 have J:(za l).size=l.length:=rfl
 go_enter Tryz.func131,Tryz.ntmps131
 go_wp2
 go_loop [3,4] (fun vn vi=>∃i:Nat,i≤l.length∧vn=.int .i64 (valA 0 (l.take i):Nat)∧vi=.int .i64 i∧valA 0 (l.take i)<9223372036854775808) (fun _ vi=>l.length-(intOf vi).toNat)
 case atStart=>exact ⟨0,Nat.zero_le _,rfl,rfl,by rw [List.take_zero];decide⟩
 case round =>
  obtain ⟨i,O,rfl,rfl,h⟩:=hrel
  by_cases hlt:i<l.length
  ·have z:=fun wx=>ZU wx l i hlt
   have y:=hd l[i] (List.getElem_mem hlt);have o:=xR l[i] (l.take i) 0;rw [←List.take_succ_eq_append_getElem hlt] at o;have D:=VC l (i+1);obtain ⟨c,M⟩:∃c,c=(l[i]).toNat:=⟨_,rfl⟩;rw [←M] at z y o
   unfold zC at y
   rw [Bool.and_eq_true,decide_eq_true_eq,decide_eq_true_eq] at y;obtain ⟨d,rfl⟩:∃d,c=d+48:=⟨c-48,by omega⟩
   rw [Nat.add_sub_cancel] at o;have K:d≤9:=by omega
   obtain ⟨N,H⟩:∃N,N=valA 0 (l.take i):=⟨_,rfl⟩;rw [←H] at o h ⊢;have Q:Hid (N=valA 0 (l.take i)):=H;have A:Hid (valA 0 (l.take (i+1))=N*10+d):=o;have I:Hid (valA 0 (l.take (i+1))≤valA 0 l):=D;have G:((d+48:Nat):Int)=(d:Int)+48:=by omega
   simp only [G] at z;clear H o D hd y
   by_cases h63:N*10+d<9223372036854775808
   ·have L:((9223372036854775807-(d:Int)).tdiv 10<(N:Int))=False:=by
     rw [Int.tdiv_eq_ediv_of_nonneg (by omega)];simp;omega
    go_wp2
    refine ⟨⟨i+1,by omega,?_,by go_num,by rw [A.out];exact h63⟩,?_⟩
    ·rw [A.out]
     congr 1
     omega
    ·simp [intOf];omega
   ·have E:Hid (Qy l=-1):=if_neg (by have:=I.out;rw [A.out] at this;omega)
    have L:((9223372036854775807-(d:Int)).tdiv 10<(N:Int))=True:=by
     rw [Int.tdiv_eq_ediv_of_nonneg (by omega)];simp;omega
    go_wp2
    go_ret
    rw [E.out];exact ⟨rfl,rfl⟩
  ·obtain rfl:i=l.length:=by omega
   rw [List.take_length] at h ⊢;have E:Hid (Qy l=((valA 0 l:Nat):Int)):=if_pos h;clear hd;go_wp2
   go_ret
   rw [E.out];exact ⟨rfl,rfl⟩
end Go.Proofs.YtmbofhpmockmbaaGreatDoor
namespace Go.Proofs.YtmbofhpmockmbaaGreatDoor
open Go.RowKit
set_option maxHeartbeats 16000000
set_option maxRecDepth 100000
theorem Uu {c:UInt8} (t:List UInt8) (h:zz c.toNat=true):ZH (c::t)=ZH t+1:=by
 have e:Zb zz (c::t)=Zb zz t+1:=by
  unfold Zb;rw [List.takeWhile_cons_of_pos (p:=fun c:UInt8=>zz c.toNat) h,List.length_cons]
 rw [Yu,Yu t,e,List.drop_succ_cons];omega
theorem Qz {r:List UInt8} (h:y8 r=true):ZH r=Zb zQ r+ZH (r.drop (Zb zQ r)):=by
 have e:Zb zz r=0:=by
  obtain ⟨t,rfl⟩:=vM h
  unfold Zb
  rw [List.takeWhile_cons_of_neg (by decide)]
  rfl
 rw [Yu,e,List.drop_zero,Nat.zero_add]
 unfold Xg
 rw [if_pos h]
theorem XO {c:UInt8} {t:List UInt8} (hb:zz c.toNat=false) (hr:y8 (c::t)=false):ZH (c::t)=0:=by
 have e:Zb zz (c::t)=0:=by
  unfold Zb;rw [List.takeWhile_cons_of_neg (by simp [hb])];rfl
 rw [Yu,e,List.drop_zero,Nat.zero_add]
 unfold Xg
 rw [if_neg (by simp [hr])]
theorem xS {x:UInt8} {r:List UInt8}:y8 (x::r)=(decide (x.toNat=47)&&(match r with | []=>false | y::_=>decide (y.toNat=47))):=by
 have o:∀y:UInt8,((47:UInt8)==y)=decide (y.toNat=47):=fun y=>by
  by_cases h:y=47
  ·subst h;rfl
  ·have z:y.toNat≠47:=fun e=>h (UInt8.toNat_inj.1 e)
   rw [decide_eq_false z,beq_eq_false_iff_ne];exact Ne.symm h
 unfold y8 Lib.hasPrefix
 cases r with
 | nil=>simp [List.isPrefixOf]
 | cons y r=>simp only [List.isPrefixOf];rw [o,o,Bool.and_true]
theorem yZ (a b:List UInt8) (c:UInt8):Lib.countByte (a++b) c=Lib.countByte a c+Lib.countByte b c:=by
 unfold Lib.countByte
 exact List.count_append
theorem XP {l:List UInt8} {line line' a b:Nat} (f:Nat) (hp:zl l a=zl l b) (hl:z8 l line a=z8 l line' b):scanS l f line a=scanS l f line' b:=by
 have e:zt l a=zt l b:=by
  show zD (l.drop (zl l a))=zD (l.drop (zl l b))
  rw [hp]
 have h:tkT l line a=tkT l line' b:=by
  unfold tkT
  rw [e,hl,hp]
 cases f with
 | zero=>rfl
 | succ f =>
  unfold scanS
  rw [e,h,hl,hp]
theorem YT {l:List UInt8} {a:Nat} (f line:Nat) (h:a<l.length) (hb:zz (l[a]).toNat=true) :
  scanS l f line a=scanS l f (if (l[a]).toNat=10 then line+1 else line) (a+1):=by
 have hd:l.drop a=l[a]::l.drop (a+1):=List.drop_eq_getElem_cons h;have o:ZH (l.drop a)=ZH (l.drop (a+1))+1:=by rw [hd];exact Uu _ hb
 refine XP f ?_ ?_
 ·unfold zl;omega
 ·unfold z8
  rw [o,hd,List.take_succ_cons];show line+Lib.countByte ([l[a]]++(l.drop (a+1)).take (ZH (l.drop (a+1)))) 10=_
  rw [yZ]
  by_cases h10:(l[a]).toNat=10
  ·rw [if_pos h10]
   have:l[a]=10:=UInt8.toNat_inj.1 h10
   rw [this]
   have:Lib.countByte [10] 10=1:=by decide
   omega
  ·rw [if_neg h10]
   have y:l[a]≠10:=fun e=>h10 (by rw [e];rfl)
   have:Lib.countByte [l[a]] 10=0:=by
    unfold Lib.countByte
    simp [y]
   omega
theorem qF (r:List UInt8):Lib.countByte (r.take (Zb zQ r)) 10=0:=by
 unfold Zb
 rw [Yh]
 have o:∀c∈r.takeWhile (fun c=>zQ c.toNat),c≠10:=fun c hc=>by
  have:=YX (p:=fun c=>zQ c.toNat) r c hc
  intro e;rw [e] at this;exact absurd this (by decide)
 generalize r.takeWhile (fun c=>zQ c.toNat)=x at o
 unfold Lib.countByte
 simp only [List.count_eq_zero];intro h;exact o 10 h rfl
theorem Vc {l:List UInt8} {a:Nat} (f line:Nat) (h:y8 (l.drop a)=true) :
  scanS l f line a=scanS l f line (a+Zb zQ (l.drop a)):=by
 have e:=Qz h;rw [List.drop_drop] at e;refine XP f ?_ ?_
 ·unfold zl;omega
 ·unfold z8
  rw [e,List.take_add,yZ,qF,List.drop_drop];omega
def ZZ (pre:List Tk) (X:List Tk × Nat × Nat):List Tk × Nat × Nat:=if X.2.2≠0 then ([],X.2.1,X.2.2) else (pre++X.1,0,0)
theorem qG (f:Nat) (l:List UInt8) (line a:Nat):ZZ [] (scanS l f line a)=scanS l f line a:=by
 unfold ZZ
 cases f with
 | zero=>rfl
 | succ f =>
  rw [scanS]
  by_cases he:(zt l a).e≠0
  ·rw [if_pos he,if_pos he]
  ·rw [if_neg he]
   by_cases hk:(zt l a).k=0
   ·rw [if_pos hk];rfl
   ·rw [if_neg hk]
    generalize scanS l f (z8 l line a) (zl l a+(zt l a).sz)=A
    by_cases hA:A.2.2≠0
    ·rw [if_pos hA,if_pos hA]
    ·rw [if_neg hA];rfl
theorem xT {l:List UInt8} {a:Nat} (f line:Nat) (pre:List Tk) (hg:ZH (l.drop a)=0) (ha:a<l.length) :
  ((zD (l.drop a)).e≠0→ZZ pre (scanS l (f+1) line a)=([],a,(zD (l.drop a)).e)) ∧
  ((zD (l.drop a)).e=0→ZZ pre (scanS l (f+1) line a)=ZZ (pre++[⟨(zD (l.drop a)).k,(zD (l.drop a)).s,(zD (l.drop a)).n,line,a⟩]) (scanS l f line (a+(zD (l.drop a)).sz))∧1≤(zD (l.drop a)).sz∧a+(zD (l.drop a)).sz≤l.length):=by
 have o:zl l a=a:=by unfold zl;rw [hg];rfl
 have z:zt l a=zD (l.drop a):=by show zD (l.drop (zl l a))=_;rw [o]
 have E:z8 l line a=line:=by unfold z8;rw [hg];rfl
 have H:tkT l line a=⟨(zD (l.drop a)).k,(zD (l.drop a)).s,(zD (l.drop a)).n,line,a⟩:=by unfold tkT;rw [z,E,o]
 constructor
 ·intro h
  unfold scanS
  rw [z,if_pos h,o]
  unfold ZZ
  rw [if_pos h]
 ·intro h
  have D:=xy (l.drop a) h
  have y:(zD (l.drop a)).k≠0:=fun y=>by
   have G:=D.2.2 y
   have:=congrArg List.length G
   rw [List.length_drop,List.length_nil] at this;omega
  refine ⟨?_,D.2.1 y,by have:=D.1;rw [List.length_drop] at this;omega⟩
  rw [scanS,z,if_neg (by simp [h]),if_neg y,E,o,H]
  generalize scanS l f line (a+(zD (l.drop a)).sz)=A
  unfold ZZ
  by_cases hA:A.2.2≠0
  ·rw [if_pos hA,if_pos hA,if_pos hA]
  ·rw [if_neg hA,if_neg (by simp),if_neg hA]
   simp
theorem qH (l:List UInt8) (f line:Nat) (pre:List Tk):ZZ pre (scanS l (f+1) line l.length)=(pre++[⟨0,[],0,line,l.length⟩],0,0):=by
 have hd:l.drop l.length=[]:=List.drop_length;have e:zl l l.length=l.length:=by unfold zl;rw [hd,V0];rfl
 have h:zt l l.length=⟨0,[],0,0,0⟩:=by show zD (l.drop (zl l l.length))=_;rw [e,hd];rfl
 have y:z8 l line l.length=line:=by unfold z8;rw [hd,V0];rfl
 have o:tkT l line l.length=⟨0,[],0,line,l.length⟩:=by unfold tkT;rw [h,y,e]
 unfold scanS
 rw [h,if_neg (by simp),if_pos rfl,o]
 rfl
def refSigns:List (List UInt8):=[[61,61],[33,61],[60,61],[62,61],[38,38],[124,124],[40],[41],[123],[125],[91],[93],[44],[58],[59],[46],[61],[60],[62],[43],[45],[42],[47],[37],[33]]
theorem QA {l x y:List UInt8} (hx:Lib.hasPrefix l x=true) (hy:Lib.hasPrefix l y=true) (h:x.length=y.length):x=y:=by
 unfold Lib.hasPrefix at hx hy
 have e:=List.prefix_iff_eq_take.1 (List.isPrefixOf_iff_prefix.1 hx);have o:=List.prefix_iff_eq_take.1 (List.isPrefixOf_iff_prefix.1 hy);rw [e,o,h]
theorem um (l:List UInt8):∀(xs:List (List UInt8)) (b:List UInt8),b.length≤(xs.foldl (longer l) b).length∧(∀x∈xs,Lib.hasPrefix l x=true→x.length≤(xs.foldl (longer l) b).length) ∧
  (xs.foldl (longer l) b=b∨(xs.foldl (longer l) b∈xs∧Lib.hasPrefix l (xs.foldl (longer l) b)=true))
 | [],b=>⟨Nat.le_refl _,(fun x h=>by cases h),.inl rfl⟩
 | x::xs,b=>by
  rw [List.foldl_cons];obtain ⟨i1,D,A⟩:=um l xs (longer l b x)
  have G:b.length≤(longer l b x).length:=by
   unfold longer
   split
   ·rename_i h;omega
   ·exact Nat.le_refl _
  refine ⟨Nat.le_trans G i1,fun y o hp=>?_,?_⟩
  ·rcases List.mem_cons.1 o with rfl | o
   ·refine Nat.le_trans ?_ i1
    unfold longer
    split
    ·exact Nat.le_refl _
    ·rename_i h
     rcases Nat.lt_or_ge b.length y.length with e | e
     ·exact absurd ⟨e,hp⟩ h
     ·exact e
   ·exact D y o hp
  ·rcases A with h | ⟨E,z⟩
   ·rw [h]
    unfold longer
    split
    ·rename_i e;exact .inr ⟨List.mem_cons_self ..,e.2⟩
    ·exact .inl rfl
   ·exact .inr ⟨List.mem_cons_of_mem _ E,z⟩
theorem xB (l:List UInt8):(∀x∈signsL,Lib.hasPrefix l x=true→x.length≤(bestS l 25).length)∧(bestS l 25=[]∨(bestS l 25∈signsL∧Lib.hasPrefix l (bestS l 25)=true)):=by
 have h:=um l signsL [];have e:bestS l 25=signsL.foldl (longer l) []:=by unfold bestS;rw [List.take_of_length_le (by decide)]
 rw [e];exact h.2
theorem QB {l:List UInt8} {i:Nat} (hi:i<refSigns.length) (hno:∀x∈refSigns.take i,Lib.hasPrefix l x=false) (hp:Lib.hasPrefix l (refSigns[i]'hi)=true):bestS l 25=refSigns[i]'hi:=by
 obtain ⟨L,o⟩:=xB l;have I:∀x∈refSigns,x∈signsL:=by decide
 have G:∀x∈signsL,x∈refSigns:=by decide
 have H:∀x∈refSigns,1≤x.length:=by decide
 have K:∀(a:Nat) (ha:a<25) (b:Nat) (hb:b<25),a≤b→((refSigns[b]'hb).length≤(refSigns[a]'ha).length):=by decide
 have e:=L _ (I _ (List.getElem_mem hi)) hp;have E:=H _ (List.getElem_mem hi);rcases o with o | ⟨o,A⟩
 ·rw [o,List.length_nil] at e
  omega
 ·obtain ⟨j,J,D⟩:=List.getElem_of_mem (G _ o)
  have z:i≤j:=by
   rcases Nat.lt_or_ge j i with h | h
   ·have:=hno _ (List.mem_take_iff_getElem.2 ⟨j,by omega,rfl⟩)
    rw [D,A] at this;cases this
   ·exact h
  have y:=K i hi j J z;rw [D] at y;exact QA A hp (Nat.le_antisymm y e)
theorem qI {l:List UInt8} (hno:∀x∈refSigns,Lib.hasPrefix l x=false):bestS l 25=[]:=by
 obtain ⟨-,e⟩:=xB l;have o:∀x∈signsL,x∈refSigns:=by decide
 rcases e with e | ⟨e,h⟩
 ·exact e
 ·rw [hno _ (o _ e)] at h;cases h
end Go.Proofs.YtmbofhpmockmbaaGreatDoor

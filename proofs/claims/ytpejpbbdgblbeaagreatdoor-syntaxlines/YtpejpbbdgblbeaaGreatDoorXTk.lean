import Derived.Test.YtpejpbbdgblbeaaGreatDoorMC1
import Derived.Test.YtpejpbbdgblbeaaGreatDoorMC0
import Derived.Deep.MidRow
import Derived.LoopN
namespace Go.Proofs.YtpejpbbdgblbeaaGreatDoor
open Go.RowKit
set_option maxHeartbeats 16000000
set_option maxRecDepth 100000
structure TR where
 k:Nat
 s:List UInt8
 n:Nat
 sz:Nat
 e:Nat
def Z9 (r:TR):Value:=.tuple #[.agg #[.int .i64 r.k,.string (zb r.s),.int .i64 r.n,.int .i64 0,.int .i64 0],.int .i64 r.sz,.int .i64 r.e]
def Z6 (l:List UInt8):List UInt8:=l.takeWhile fun c=>Yt c.toNat
def Yk (l:List UInt8):TR:=if yA (Z6 l)=true then ⟨5,Z6 l,0,(Z6 l).length,0⟩ else if 20<(Z6 l).length then ⟨0,[],0,0,5⟩ else ⟨1,Z6 l,0,(Z6 l).length,0⟩
theorem vS (p:UInt8→Bool) (l:List UInt8):l.take (l.takeWhile p).length=l.takeWhile p:=by
 induction l with
 | nil=>rfl
 | cons x l ih =>
  by_cases h:p x=true
  ·simp [h,ih]
  ·simp [h]
theorem ut (l:List UInt8):(Z6 l).length≤l.length:=(List.takeWhile_sublist _).length_le
theorem yz.alloc {w:World} (h:yz w) (o:Obj):yz (w.alloc o) :=
 ⟨fun j hj=>Lib.cell?_alloc_some o (h.words j hj),fun j hj=>Lib.cell?_alloc_some o (h.signs j hj),fun j hj=>Lib.cell?_alloc_some o (h.escs j hj),by obtain ⟨a,b,c⟩:=h.range;exact ⟨a,b,Lib.cell?_alloc_some o c⟩⟩
theorem yz.below {w w':World} {B:Nat} (h:yz w) (hb:Below B w w') (hB:w.heap.size≤B):yz w':=by
 have o:∀{p:Addr} {v:Value},w.cell? p=some v→w'.cell? p=some v:=fun {p v} hp=>by
  rw [hb.cell (Nat.lt_of_lt_of_le (World.block_lt_of_cell? w _ hp) hB)];exact hp
 exact ⟨fun j hj=>o (h.words j hj),fun j hj=>o (h.signs j hj),fun j hj=>o (h.escs j hj),by obtain ⟨a,b,c⟩:=h.range;exact ⟨a,b,o c⟩⟩
theorem Ur (l:List UInt8) (w:World) (hl:l.length≤9223372036854775000) (ht:yz w) :
  Calls Tryz.prog 156 #[.string (zb l)] w fun e w'=>e=.returned (Z9 (Yk l))∧Below w.heap.size w w':=by
 have J:Hid (yz w):=ht;have o:=ut l;obtain ⟨m,y⟩:∃m,m=(Z6 l).length:=⟨_,rfl⟩;rw [←y] at o;have A:=fun wx=>qo wx l m o
 rw [show l.take m=Z6 l by rw [y];exact vS _ l] at A
 have z:Hid (m=(Z6 l).length):=y;clear ht
 have K:Hid (∀wx,Calls Tryz.prog 149 #[.string (zb l),.func (.func 182) #[] #[]] wx fun e w'=>e=.returned (.int .i64 m)∧wx=w'):=fun wx=>by
  rw [y];exact zc4 l wx hl
 have H:Hid (∀wx,yz wx→Calls Tryz.prog 183 #[.string (zb (Z6 l))] wx fun e w'=>e=.returned (.bool (yA (Z6 l)))∧wx=w'):=fun wx h=>zc6 _ wx h
 clear y;have L:=(Below.refl w.heap.size w).alloc (Nat.le_refl _);obtain ⟨x,D⟩:∃x,x=Z6 l:=⟨_,rfl⟩;rw [←D] at A H z;have G:Hid (x=Z6 l):=D;clear D
 go_enter Tryz.func156,Tryz.ntmps156
 go_wp2_with fail
 refine (K.out _).mono ?_;rintro e I ⟨rfl,rfl⟩;go_wp2_with fail
 refine (H.out _ (J.out.alloc _)).mono ?_;rintro e I ⟨rfl,rfl⟩;cases hq:yA x with
 | true =>
  have s:Hid (Yk l=⟨5,x,0,m,0⟩):=by unfold Yk;rw [←G.out,if_pos hq,←z.out];rfl
  go_wp2
  refine bodyPost_ret (v:=Z9 ⟨5,x,0,m,0⟩) (by simp [results,Tryz.results156,go_sem,Z9]) rfl ⟨by rw [s.out],?_⟩
  exact (Below.refl w.heap.size w).alloc (Nat.le_refl _) _
 | false =>
  by_cases h20:20<m
  ·have s:Hid (Yk l=⟨0,[],0,0,5⟩):=by unfold Yk;rw [←G.out,if_neg (by rw [hq];simp),if_pos (by rw [←z.out];exact h20)];rfl
   go_wp2
   refine bodyPost_ret (v:=Z9 ⟨0,[],0,0,5⟩) (by simp [results,Tryz.results156,go_sem,Z9]) rfl ⟨by rw [s.out],?_⟩
   exact (Below.refl w.heap.size w).alloc (Nat.le_refl _) _
  ·have s:Hid (Yk l=⟨1,x,0,m,0⟩):=by unfold Yk;rw [←G.out,if_neg (by rw [hq];simp),if_neg (by rw [←z.out];exact h20),←z.out];rfl
   go_wp2
   refine bodyPost_ret (v:=Z9 ⟨1,x,0,m,0⟩) (by simp [results,Tryz.results156,go_sem,Z9]) rfl ⟨by rw [s.out],?_⟩
   exact (Below.refl w.heap.size w).alloc (Nat.le_refl _) _
def valA (acc:Nat):List UInt8→Nat
 | []=>acc
 | c::r=>valA (acc*10+(c.toNat-48)) r
theorem zbu:∀(r:List UInt8) (acc:Nat),acc≤valA acc r
 | [],_=>Nat.le_refl _
 | c::r,acc=>Nat.le_trans (by omega) (zbu r (acc*10+(c.toNat-48)))
theorem qp (ds:List UInt8):∀(o:Nat),(∀c∈ds,ZB c.toNat=true)→o<18446744073709551616 →
  Lib.parseUint10 o ds=if valA o ds<18446744073709551616 then .ok (valA o ds) else .range:=by
 induction ds with
 | nil =>
  intro o _ y;rw [show valA o []=o from rfl,if_pos y]
  rfl
 | cons c r ih =>
  intro o h y;have s:=h c (List.mem_cons_self ..)
  unfold ZB at s
  rw [Bool.and_eq_true,decide_eq_true_eq,decide_eq_true_eq] at s;have z:=zbu r (o*10+(c.toNat-48));rw [show valA o (c::r)=valA (o*10+(c.toNat-48)) r from rfl]
  unfold Lib.parseUint10
  rw [if_pos s]
  by_cases h1:1844674407370955162≤o
  ·rw [if_pos h1,if_neg (by omega)]
  ·rw [if_neg h1]
   by_cases h2:18446744073709551616≤o*10+(c.toNat-48)
   ·rw [if_pos h2,if_neg (by omega)]
   ·rw [if_neg h2]
    exact ih _ (fun d hd=>h d (List.mem_cons_of_mem _ hd)) (by omega)
theorem Qe {ds:List UInt8} (h:∀c∈ds,ZB c.toNat=true) (hne:ds≠[]) :
  Lib.atoiAll ds=if valA 0 ds<9223372036854775808 then .ok (valA 0 ds:Int) else .range:=by
 cases ds with
 | nil=>exact absurd rfl hne
 | cons c r =>
  have o:=h c (List.mem_cons_self ..)
  unfold ZB at o
  rw [Bool.and_eq_true,decide_eq_true_eq,decide_eq_true_eq] at o;have A:¬ (c.toNat=43∨c.toNat=45):=by omega
  have y:¬ c.toNat=45:=by omega
  have s:Lib.parseMag (c::r)=if valA 0 (c::r)<18446744073709551616 then .ok (valA 0 (c::r)) else .range:=by
   unfold Lib.parseMag;rw [if_neg (by simp)];exact qp _ 0 h (by omega)
  generalize valA 0 (c::r)=v at s ⊢;have z:(if c.toNat=43∨c.toNat=45 then r else c::r)=c::r:=if_neg A
  unfold Lib.atoiAll
  simp only [z];rw [s]
  by_cases h3:v<18446744073709551616
  ·rw [if_pos h3]
   by_cases h4:v<9223372036854775808
   ·simp only
    rw [if_neg (by omega),if_neg (by omega),if_neg y,if_pos h4]
   ·simp only
    rw [if_pos ⟨y,by omega⟩,if_neg h4]
  ·rw [if_neg h3,if_neg (by omega)]
theorem vT {p:UInt8→Bool}:∀(l:List UInt8) (c:UInt8),c∈l.takeWhile p→p c=true
 | [],c,h=>by simp at h
 | x::l,c,h=>by
  by_cases hx:p x=true
  ·rw [List.takeWhile_cons_of_pos hx] at h
   rcases List.mem_cons.1 h with rfl | h
   ·exact hx
   ·exact vT l c h
  ·rw [List.takeWhile_cons_of_neg hx] at h
   simp at h
def digL (l:List UInt8):List UInt8:=l.takeWhile fun c=>ZB c.toNat
def Xy (l:List UInt8):TR:=if valA 0 (digL l)<9223372036854775808 then ⟨2,[],valA 0 (digL l),(digL l).length,0⟩ else ⟨0,[],0,0,5⟩
theorem zbv (l:List UInt8):(digL l).length≤l.length:=(List.takeWhile_sublist _).length_le
theorem zc7 (l:List UInt8):∀c∈digL l,ZB c.toNat=true:=fun c hc=>vT (p:=fun c=>ZB c.toNat) l c hc
theorem V1 (l:List UInt8) (w:World) (hl:l.length≤140737488351232) (hne:digL l≠[]) (ht:yz w) :
  Calls Tryz.prog 158 #[.string (zb l)] w fun e w'=>e=.returned (Z9 (Xy l))∧Below w.heap.size w w':=by
 have Z:Hid (yz w):=ht;have z:=zbv l;obtain ⟨m,H⟩:∃m,m=(digL l).length:=⟨_,rfl⟩;rw [←H] at z;have J:=fun wx=>qo wx l m z
 rw [show l.take m=digL l by rw [H];exact vS _ l] at J
 have K:Hid (m=(digL l).length):=H;have W:m≤140737488351232:=by omega
 clear ht
 have HN:Hid (∀wx,Calls Tryz.prog 149 #[.string (zb l),.func (.func 157) #[] #[]] wx fun e w'=>e=.returned (.int .i64 m)∧wx=w'):=fun wx=>by
  rw [H];exact zbV l wx (by omega)
 have s:=Qe (zc7 l) hne;obtain ⟨x,Q⟩:∃x,x=digL l:=⟨_,rfl⟩;rw [←Q] at J K s;obtain ⟨v,R⟩:∃v,v=valA 0 x:=⟨_,rfl⟩;rw [←R] at s;have V:Hid (x=digL l):=Q;have Y:Hid (v=valA 0 x):=R;have I:Hid (Lib.atoiAll x=if v<9223372036854775808 then .ok (v:Int) else .range):=s
 clear Q R s H
 go_enter Tryz.func158,Tryz.ntmps158
 go_wp2_with fail
 refine (HN.out _).mono ?_;rintro e w1 ⟨rfl,rfl⟩
 by_cases h63:v<9223372036854775808
 ·have c1:=fun wx=>Tryz.strconv_Atoi_ok (zb x) (by rw [Zb,←K.out];omega) v (by show Lib.atoiAll x=_;rw [I.out,if_pos h63]) wx
  have O:Hid (Xy l=⟨2,[],v,m,0⟩):=by unfold Xy;rw [←V.out,←Y.out,if_pos h63,←K.out];rfl
  go_wp2_with fail
  refine (c1 _).mono ?_;clear c1;rintro e w1 ⟨rfl,A⟩
  have h:Below (w.heap.size+1) (w.alloc (Obj.cells #[Value.int IntKind.i64 0,Value.string ⟨#[]⟩,Value.int IntKind.i64 0,Value.int IntKind.i64 0,Value.int IntKind.i64 0] 66)) w1:=by
   rcases A with rfl | ⟨t,rfl⟩
   ·exact Below.refl _ _
   ·have D:=Lib.bytesWorld_below (w.alloc (Obj.cells #[Value.int IntKind.i64 0,Value.string ⟨#[]⟩,Value.int IntKind.i64 0,Value.int IntKind.i64 0,Value.int IntKind.i64 0] 66)) 5 t
    rw [World.size_alloc] at D;exact D
  clear A
  obtain ⟨y,N⟩:(∀o,w1.cell? ⟨w.heap.size,o,none⟩=(w.alloc (Obj.cells #[Value.int IntKind.i64 0,Value.string ⟨#[]⟩,Value.int IntKind.i64 0,Value.int IntKind.i64 0,Value.int IntKind.i64 0] 66)).cell? ⟨w.heap.size,o,none⟩)∧(∀o,w1.frozen? ⟨w.heap.size,o,none⟩=(w.alloc (Obj.cells #[Value.int IntKind.i64 0,Value.string ⟨#[]⟩,Value.int IntKind.i64 0,Value.int IntKind.i64 0,Value.int IntKind.i64 0] 66)).frozen? ⟨w.heap.size,o,none⟩) :=
   ⟨fun o=>h.cell (p:=⟨w.heap.size,o,none⟩) (by simp),fun o=>h.frozen (p:=⟨w.heap.size,o,none⟩) (by simp)⟩
  have L:Hid (Below w.heap.size w w1):=((Below.refl w.heap.size w).alloc (Nat.le_refl _) _).trans (h.mono (by omega))
  clear h;go_wp2
  refine bodyPost_ret (v:=Z9 ⟨2,[],v,m,0⟩) (by simp [results,Tryz.results158,go_sem,Z9,y]) rfl ⟨by rw [O.out],?_⟩
  exact ((((L.out.setCell (p:=⟨w.heap.size,0,none⟩) (Nat.le_refl _) _).setCell (p:=⟨w.heap.size,1,none⟩) (Nat.le_refl _) _).setCell (p:=⟨w.heap.size,2,none⟩) (Nat.le_refl _) _).setCell (p:=⟨w.heap.size,3,none⟩) (Nat.le_refl _) _).setCell (p:=⟨w.heap.size,4,none⟩) (Nat.le_refl _) _
 ·obtain ⟨T,U,G⟩:=Z.out.range
  have c1:=Tryz.strconv_Atoi_range (zb x) (by rw [Zb,←K.out];omega) (by show Lib.atoiAll x=_;rw [I.out,if_neg h63]) (.iface T U) (w.alloc (Obj.cells #[Value.int IntKind.i64 0,Value.string ⟨#[]⟩,Value.int IntKind.i64 0,Value.int IntKind.i64 0,Value.int IntKind.i64 0] 66)) (Lib.cell?_alloc_some _ G) (.inr ⟨T,U,rfl⟩)
  have O:Hid (Xy l=⟨0,[],0,0,5⟩):=by unfold Xy;rw [←V.out,←Y.out,if_neg h63];rfl
  go_wp2_with fail
  refine c1.mono ?_;clear c1;rintro e w1 ⟨NN,rfl,-,-,h⟩;rw [World.size_alloc] at h
  obtain ⟨y,N⟩:(∀o,w1.cell? ⟨w.heap.size,o,none⟩=(w.alloc (Obj.cells #[Value.int IntKind.i64 0,Value.string ⟨#[]⟩,Value.int IntKind.i64 0,Value.int IntKind.i64 0,Value.int IntKind.i64 0] 66)).cell? ⟨w.heap.size,o,none⟩)∧(∀o,w1.frozen? ⟨w.heap.size,o,none⟩=(w.alloc (Obj.cells #[Value.int IntKind.i64 0,Value.string ⟨#[]⟩,Value.int IntKind.i64 0,Value.int IntKind.i64 0,Value.int IntKind.i64 0] 66)).frozen? ⟨w.heap.size,o,none⟩) :=
   ⟨fun o=>h.cell (p:=⟨w.heap.size,o,none⟩) (by simp),fun o=>h.frozen (p:=⟨w.heap.size,o,none⟩) (by simp)⟩
  have L:Hid (Below w.heap.size w w1):=((Below.refl w.heap.size w).alloc (Nat.le_refl _) _).trans (h.mono (by omega))
  clear h G;go_wp2
  refine bodyPost_ret (v:=Z9 ⟨0,[],0,0,5⟩) (by simp [results,Tryz.results158,go_sem,Z9,y]) rfl ⟨by rw [O.out],?_⟩
  exact ((((L.out.setCell (p:=⟨w.heap.size,0,none⟩) (Nat.le_refl _) _).setCell (p:=⟨w.heap.size,1,none⟩) (Nat.le_refl _) _).setCell (p:=⟨w.heap.size,2,none⟩) (Nat.le_refl _) _).setCell (p:=⟨w.heap.size,3,none⟩) (Nat.le_refl _) _).setCell (p:=⟨w.heap.size,4,none⟩) (Nat.le_refl _) _
def longer (l best x:List UInt8):List UInt8:=if best.length<x.length∧Lib.hasPrefix l x=true then x else best
def bestS (l:List UInt8) (n:Nat):List UInt8:=(signsL.take n).foldl (longer l) []
def Yu (l:List UInt8):TR:=if bestS l 25=[] then ⟨0,[],0,0,6⟩ else ⟨4,bestS l 25,0,(bestS l 25).length,0⟩
theorem zar (l:List UInt8) (n:Nat) (h:n<signsL.length):bestS l (n+1)=longer l (bestS l n) signsL[n]:=by
 unfold bestS;rw [List.take_succ_eq_append_getElem h,List.foldl_append];rfl
theorem UN (l:List UInt8) (n:Nat):(bestS l n).length≤2:=by
 have s:∀(h:List (List UInt8)) (b:List UInt8),(∀x∈h,x.length≤2)→b.length≤2→(h.foldl (longer l) b).length≤2:=by
  intro h
  induction h with
  | nil=>intro b _ z;exact z
  | cons x h ih =>
   intro b o z;refine ih _ (fun y hy=>o y (List.mem_cons_of_mem _ hy)) ?_
   unfold longer
   split
   ·exact o x (List.mem_cons_self ..)
   ·exact z
 exact s _ _ (fun x o=>by
  have:∀x∈signsL,x.length≤2:=by decide
  exact this x (List.mem_of_mem_take o)) (by simp)
def Vs:List Value:=signsL.map fun x=>.string (zb x)
def signsV:Value:=.agg Vs.toArray
theorem Qf {w:World} (ht:yz w):w.rangeAt 3 0 Vs:=fun j v hv=>by
 unfold Vs at hv
 rw [List.getElem?_map] at hv;rcases Nat.lt_or_ge j signsL.length with h | h
 ·rw [List.getElem?_eq_getElem h] at hv
  simp only [Option.map_some,Option.some.injEq] at hv;rw [Nat.zero_add,ht.signs j h,hv]
 ·rw [List.getElem?_eq_none h] at hv;cases hv
theorem zas:(Tryz.prog.info? 216).map (·.size)=some Vs.length:=by kernel_rfl
theorem Us (l:List UInt8) (w:World) (ht:yz w) :
  Calls Tryz.prog 160 #[.string (zb l)] w fun e w'=>e=.returned (Z9 (Yu l))∧Below w.heap.size w w':=by
 have R:Hid (yz w):=ht;clear ht
 go_enter Tryz.func160,Tryz.ntmps160
 go_wp2_with (refine wpList_load_mid rfl 216 _ rfl 3 0 rfl Vs _ (Qf (R.out.alloc _)) Tryz.underlying216 rfl zas ?_)
 have O:Hid (∀(wx:World) (i:Nat) (h:i<25),(Instr.index 216 signsV (.int .i64 (i:Int))).run Tryz.prog wx=.ok (.string (zb (signsL[i]'h))) wx):=fun wx i h=>zbY wx i h
 rw [show Value.agg Vs.toArray=signsV from rfl]
 generalize signsV=A at *
 go_loop [5,9] (fun vb v=>∃i:Nat,i≤25∧v=.int .i64 i∧vb=.string (zb (bestS l i))) (fun _ v=>25-(intOf v).toNat)
 case atStart=>exact ⟨0,Nat.zero_le _,rfl,rfl⟩
 case round =>
  obtain ⟨i,V,rfl,rfl⟩:=hrel;have K:=UN l i;obtain ⟨b,J⟩:∃b,b=bestS l i:=⟨_,rfl⟩;rw [←J] at K ⊢;have H:Hid (b=bestS l i):=J;clear J
  by_cases hlt:i<25
  ·have s:=fun wx=>O.out wx i hlt
   obtain ⟨x,D⟩:∃x,x=signsL[i]'hlt:=⟨_,rfl⟩;rw [←D] at s
   have U:x.length≤2:=by
    have:∀x∈signsL,x.length≤2:=by decide
    rw [D];exact this _ (List.getElem_mem _)
   have L:Hid (bestS l (i+1)=longer l b x):=show bestS l (i+1)=longer l b x by rw [zar l i hlt,H.out,D]
   have T:(zb x).size=x.length:=rfl;have N:(zb b).size=b.length:=rfl;clear D
   by_cases hlen:b.length<x.length
   ·have G:=fun wx=>Tryz.strings_HasPrefix (zb l) (zb x) wx
    cases hp:Lib.hasPrefix l x with
    | true =>
     have z:Lib.hasPrefix (zb l).data.toList (zb x).data.toList=true:=hp;rw [z] at G;have o:Hid (bestS l (i+1)=x):=show bestS l (i+1)=x by rw [L.out];unfold longer;rw [if_pos ⟨hlen,hp⟩]
     clear z;go_wp2_with (go_at_call 140;refine (G _).mono ?_;rintro e Q ⟨rfl,rfl⟩)
     refine ⟨⟨i+1,by omega,by go_num,by rw [o.out]⟩,by simp [intOf];omega⟩
    | false =>
     have z:Lib.hasPrefix (zb l).data.toList (zb x).data.toList=false:=hp;rw [z] at G;have o:Hid (bestS l (i+1)=b):=show bestS l (i+1)=b by rw [L.out];unfold longer;rw [if_neg (fun h=>by rw [hp] at h;exact absurd h.2 (by decide))]
     clear z;go_wp2_with (go_at_call 140;refine (G _).mono ?_;rintro e Q ⟨rfl,rfl⟩)
     refine ⟨⟨i+1,by omega,by go_num,by rw [o.out]⟩,by simp [intOf];omega⟩
   ·have o:Hid (bestS l (i+1)=b):=show bestS l (i+1)=b by rw [L.out];unfold longer;rw [if_neg (fun h=>hlen h.1)]
    go_wp2
    refine ⟨⟨i+1,by omega,by go_num,by rw [o.out]⟩,by simp [intOf];omega⟩
  ·obtain rfl:i=25:=by omega
   have N:(zb b).size=b.length:=rfl;cases b with
   | nil =>
    have I:Hid (Yu l=⟨0,[],0,0,6⟩):=by unfold Yu;rw [←H.out,if_pos rfl];rfl
    go_wp2
    refine bodyPost_ret (v:=Z9 ⟨0,[],0,0,6⟩) (by simp [results,Tryz.results160,go_sem,Z9]) rfl ⟨by rw [I.out],?_⟩
    exact (Below.refl w.heap.size w).alloc (Nat.le_refl _) _
   | cons y ys =>
    have I:Hid (Yu l=⟨4,y::ys,0,(y::ys).length,0⟩):=by unfold Yu;rw [←H.out,if_neg (by simp)];rfl
    go_wp2
    refine bodyPost_ret (v:=Z9 ⟨4,y::ys,0,(y::ys).length,0⟩) (by simp [results,Tryz.results160,go_sem,Z9]) rfl ⟨by rw [I.out],?_⟩
    exact (Below.refl w.heap.size w).alloc (Nat.le_refl _) _
def vu:List UInt8→Nat × Nat
 | []=>(0,0)
 | x::r=>if x.toNat<32∨126<x.toNat then (0,0) else if x.toNat≠92 then (x.toNat,1) else
  match r with
  | []=>(0,0)
  | y::_=>if y.toNat=92 then (92,2) else if y.toNat=34 then (34,2) else if y.toNat=110 then (10,2) else (0,0)
theorem qq (w:World) (l:List UInt8) (i:Nat) (h:i<l.length):(Instr.index 9 (.string (zb l)) (.int .i64 (i:Int))).run Tryz.prog w=.ok (.int .u8 ((l[i]).toNat:Int)) w:=by
 rw [run_index_string (P:=Tryz.prog) (w:=w) 9 (zb l) .i64 _ Tryz.underlying9,dif_pos ⟨by omega,by rw [Zb];omega⟩]
 simp only [Int.toNat_natCast]
 rfl
theorem UO {a:Nat × Nat} {c k:Nat} (h:a=(c,k)):(Ending.returned (.tuple #[.int .u8 (c:Int),.int .i64 (k:Int)]):Ending)=.returned (.tuple #[.int .u8 (a.1:Int),.int .i64 (a.2:Int)]):=by rw [h]
theorem ue {x:UInt8} {r:List UInt8} (h:x.toNat<32∨126<x.toNat):vu (x::r)=(0,0):=by
 show (if _ then _ else _)=_;rw [if_pos h]
theorem uf {x:UInt8} {r:List UInt8} (h:¬ (x.toNat<32∨126<x.toNat)) (h2:x.toNat≠92):vu (x::r)=(x.toNat,1):=by
 show (if _ then _ else _)=_;rw [if_neg h,if_pos h2]
theorem qr {x:UInt8} (h:¬ (x.toNat<32∨126<x.toNat)) (h2:x.toNat=92):vu [x]=(0,0):=by
 show (if _ then _ else _)=_;rw [if_neg h,if_neg (by omega)]
def tbE (m:Nat):Nat × Nat:=if m=92 then (92,2) else if m=34 then (34,2) else if m=110 then (10,2) else (0,0)
theorem qs {x y:UInt8} {t:List UInt8} (h:¬ (x.toNat<32∨126<x.toNat)) (h2:x.toNat=92):vu (x::y::t)=tbE y.toNat:=by
 show (if _ then _ else _)=_;rw [if_neg h,if_neg (by omega)];rfl
def V2:List Nat:=[92,34,110]
def Ut:List Nat:=[92,34,10]
theorem zfz {m i:Nat} (hi:i<3) (h:∀j (hj:j<3),j<i→(V2[j]'hj)≠m) (he:(V2[i]'hi)=m):tbE m=((Ut[i]'hi),2):=by
 have o:i=0∨i=1∨i=2:=by omega
 rcases o with rfl | rfl | rfl
 ·rw [←he];rfl
 ·rw [←he];rfl
 ·rw [←he];rfl
theorem zen {m:Nat} (h:∀j (hj:j<3),(V2[j]'hj)≠m):tbE m=(0,0):=by
 have o:92≠m:=h 0 (by decide)
 have s:34≠m:=h 1 (by decide)
 have y:110≠m:=h 2 (by decide)
 unfold tbE
 rw [if_neg (by omega),if_neg (by omega),if_neg (by omega)]
theorem Qg (w:World) (i:Nat) (h:i<3):(Instr.index 229 (.agg #[.int .u8 92,.int .u8 92,.int .u8 34,.int .u8 34,.int .u8 10,.int .u8 110]) (.int .i64 (i:Int))).run Tryz.prog w=.ok (.agg #[.int .u8 ((Ut[i]'h:Nat):Int),.int .u8 ((V2[i]'h:Nat):Int)]) w:=by
 have o:i=0∨i=1∨i=2:=by omega
 rcases o with rfl | rfl | rfl
 all_goals rfl
theorem qt (x:UInt8) (r:List UInt8) (w:World) (hl:r.length≤9223372036854775000) (ht:yz w) :
  Calls Tryz.prog 185 #[.string (zb (x::r))] w fun e w'=>e=.returned (.tuple #[.int .u8 (vu (x::r)).1,.int .i64 (vu (x::r)).2])∧Below w.heap.size w w':=by
 have R:=fun wx=>qq wx (x::r) 0 (by simp)
 rw [show ((0:Nat):Int)=0 from rfl,show (x::r)[0]=x from rfl] at R
 have s:(zb (x::r)).size=r.length+1:=rfl;obtain ⟨n,o⟩:∃n,n=x.toNat:=⟨_,rfl⟩;have O:n<256:=by rw [o];exact UInt8.toNat_lt x
 rw [←o] at R;obtain ⟨S,I⟩:∃S,S=zb (x::r):=⟨_,rfl⟩;rw [←I] at R s ⊢;have Z:=ht.escs 0 (by decide)
 have e1:=ht.escs 1 (by decide)
 have W:=ht.escs 2 (by decide)
 have e3:=ht.escs 3 (by decide)
 have e4:=ht.escs 4 (by decide)
 have V:=ht.escs 5 (by decide)
 simp only [List.getElem_cons_zero,List.getElem_cons_succ] at Z e1 W e3 e4 V;clear ht
 by_cases hbad:n<32∨126<n
 ·have z:Hid (vu (x::r)=(0,0)):=ue (by rw [←o];exact hbad)
  clear I o;rcases hbad with H | H
  ·go_enter Tryz.func185,Tryz.ntmps185
   go_wp2
   go_ret2
   exact ⟨UO z.out,Below.refl _ _⟩
  ·go_enter Tryz.func185,Tryz.ntmps185
   go_wp2
   go_ret2
   exact ⟨UO z.out,Below.refl _ _⟩
 ·by_cases h92:n=92
  ·cases r with
   | nil =>
    have z:Hid (vu [x]=(0,0)):=qr (by rw [←o];exact hbad) (by rw [←o];exact h92)
    have ab:S.size=1:=s;clear I o hbad s;subst h92
    go_enter Tryz.func185,Tryz.ntmps185
    go_wp2
    go_ret2
    exact ⟨UO z.out,Below.refl _ _⟩
   | cons y t =>
    have h1:=fun wx=>qq wx (x::y::t) 1 (by simp)
    rw [show ((1:Nat):Int)=1 from rfl,show (x::y::t)[1]=y from rfl] at h1
    obtain ⟨m,L⟩:∃m,m=y.toNat:=⟨_,rfl⟩;have Q:m<256:=by rw [L];exact UInt8.toNat_lt y
    rw [←L,←I] at h1;have J:Hid (vu (x::y::t)=tbE m):=show _=_ by rw [L];exact qs (by rw [←o];exact hbad) (by rw [←o];exact h92)
    have Y:S.size=t.length+2:=s;have aa:((t.length:Int)+2==1)=false:=by rw [beq_eq_false_iff_ne];omega
    have ag:t.length+1≤9223372036854775000:=by simpa using hl
    clear I o hbad s L hl;subst h92
    go_enter Tryz.func185,Tryz.ntmps185
    go_wp2
    clear Z e1 W e3 e4 V
    go_loopw [26] (fun v wr=>∃i:Nat,i≤3∧v=.int .i64 i∧(∀j (hj:j<3),j<i→(V2[j]'hj)≠m)∧Below w.heap.size w wr) (fun v _=>3-(intOf v).toNat)
    case atStart=>exact ⟨0,Nat.zero_le _,rfl,fun j _ h=>by omega,Below.refl _ _⟩
    case round =>
     obtain ⟨i,hi,rfl,A,G⟩:=hrel;have U:Hid (∀j (hj:j<3),j<i→(V2[j]'hj)≠m):=A;have T:Hid (Below w.heap.size w wr):=G;have D:=G.size;clear A G
     by_cases hlt:i<3
     ·have K:=fun wx=>Qg wx i hlt
      obtain ⟨a,N⟩:∃a,a=Ut[i]'hlt:=⟨_,rfl⟩;obtain ⟨b,H⟩:∃b,b=V2[i]'hlt:=⟨_,rfl⟩;rw [←N,←H] at K
      by_cases he:b=m
      ·have z:Hid (vu (x::y::t)=(a,2)):=show _=_ by rw [J.out,N];exact zfz hlt U.out (by rw [←H];exact he)
       subst he;clear N H;go_wp2
       go_quiet (fail)
       go_wp2
       go_ret2
       refine ⟨UO z.out,?_⟩;exact (T.out.alloc D _).trans ⟨rfl,rfl,rfl,Nat.le_refl _,fun _ _=>rfl⟩
      ·have ad:((b:Int)==(m:Int))=false:=by rw [beq_eq_false_iff_ne];omega
       have HE:Hid ((V2[i]'hlt)≠m):=show (V2[i]'hlt)≠m by rw [←H];exact he
       clear N H he;go_wp2
       go_quiet (fail)
       go_wp2
       refine ⟨⟨i+1,by omega,by go_num,fun j hj hji=>?_,(T.out.alloc D _).trans ⟨rfl,rfl,rfl,Nat.le_refl _,fun _ _=>rfl⟩⟩,by simp [intOf];omega⟩
       by_cases h:j<i
       ·exact U.out j hj h
       ·obtain rfl:j=i:=by omega
        exact HE.out
     ·obtain rfl:i=3:=by omega
      have z:Hid (vu (x::y::t)=(0,0)):=show _=_ by rw [J.out];exact zen (fun j hj=>U.out j hj hj)
      go_wp2
      go_ret2
      exact ⟨UO z.out,T.out⟩
  ·have z:Hid (vu (x::r)=(n,1)):=show vu (x::r)=(n,1) by rw [o];exact uf (by rw [←o];exact hbad) (by rw [←o];exact h92)
   have ae:32≤n:=by omega
   have af:n≤126:=by omega
   clear I o hbad
   go_enter Tryz.func185,Tryz.ntmps185
   go_wp2
   go_ret2
   exact ⟨UO z.out,Below.refl _ _⟩
def Zj:Nat→List UInt8→Nat→List UInt8→TR
 | 0,_,_,_=>⟨0,[],0,0,6⟩
 | _+1,_,_,[]=>⟨0,[],0,0,6⟩
 | f+1,meant,at0,x::r=>if x.toNat=34 then ⟨3,meant,0,at0+1,0⟩ else if (vu (x::r)).2=0 then ⟨0,[],0,0,6⟩ else if meant.length=255 then ⟨0,[],0,0,5⟩
  else Zj f (meant++[(vu (x::r)).1.toUInt8]) (at0+(vu (x::r)).2) ((x::r).drop (vu (x::r)).2)
def yK (l:List UInt8):TR:=Zj l.length [] 1 (l.drop 1)
theorem zc8 (l:List UInt8):(vu l).2≤l.length∧(vu l).1<256:=by
 cases l with
 | nil=>exact ⟨Nat.le_refl _,by decide⟩
 | cons x r =>
  by_cases h:x.toNat<32∨126<x.toNat
  ·rw [ue h];simp
  ·by_cases h2:x.toNat=92
   ·cases r with
    | nil=>rw [qr h h2];simp
    | cons y t =>
     rw [qs h h2]
     unfold tbE
     split
     ·simp
     ·split
      ·simp
      ·split <;> simp
   ·rw [uf h h2]
    have:=UInt8.toNat_lt x
    simp;omega
abbrev xt:Obj:=Obj.cells #[Value.int IntKind.i64 0,Value.string ⟨#[]⟩,Value.int IntKind.i64 0,Value.int IntKind.i64 0,Value.int IntKind.i64 0] 66
theorem xR {w w1:World} (hb:Below (w.heap.size+1) (w.alloc xt) w1) :
  (∀o,w1.cell? ⟨w.heap.size,o,none⟩=(w.alloc xt).cell? ⟨w.heap.size,o,none⟩)∧(∀o,w1.frozen? ⟨w.heap.size,o,none⟩=(w.alloc xt).frozen? ⟨w.heap.size,o,none⟩) :=
 ⟨fun o=>hb.cell (p:=⟨w.heap.size,o,none⟩) (by simp),fun o=>hb.frozen (p:=⟨w.heap.size,o,none⟩) (by simp)⟩
theorem yL {w w1:World} (h:Below w.heap.size w w1) (a b c d e:Value) :
  Below w.heap.size w (((((w1.setCell ⟨w.heap.size,0,none⟩ a).setCell ⟨w.heap.size,1,none⟩ b).setCell ⟨w.heap.size,2,none⟩ c).setCell ⟨w.heap.size,3,none⟩ d).setCell ⟨w.heap.size,4,none⟩ e) :=
 ((((h.setCell (p:=⟨w.heap.size,0,none⟩) (Nat.le_refl _) _).setCell (p:=⟨w.heap.size,1,none⟩) (Nat.le_refl _) _).setCell (p:=⟨w.heap.size,2,none⟩) (Nat.le_refl _) _).setCell (p:=⟨w.heap.size,3,none⟩) (Nat.le_refl _) _).setCell (p:=⟨w.heap.size,4,none⟩) (Nat.le_refl _) _
theorem yi {w w':World} {B C e n:Nat} {v:Value} {xs:List Value} (h:w.ownsRow B e 1 v n xs) (hb:Below C w w') (hC:w.heap.size≤C):w'.ownsRow B e 1 v n xs :=
 h.kept (row:=none) ⟨hb.os,hb.tape,hb.output,hb.size,fun k hk _=>hb.block k (by omega)⟩ (by cases h':v.ownBlock <;> simp)
theorem Uu (l:List UInt8) (w:World) (hl:l.length≤140737488351232) (hl1:1≤l.length) (ht:yz w) :
  Calls Tryz.prog 159 #[.string (zb l)] w fun e w'=>e=.returned (Z9 (yK l))∧Below w.heap.size w w':=by
 have HT:Hid (yz w):=ht;have aD:(zb l).size=l.length:=rfl;have hA:Below w.heap.size w (w.alloc xt):=(Below.refl w.heap.size w).alloc (Nat.le_refl _) _;have HA:Hid (Below w.heap.size w (w.alloc xt)):=hA;clear ht hA
 go_enter Tryz.func159,Tryz.ntmps159
 go_wp2
 go_loopw [5,6] (fun vm va wr=>∃(f at0:Nat) (meant:List UInt8),va=.int .i64 at0∧at0≤l.length∧l.length≤at0+f∧meant.length≤255∧yK l=Zj f meant at0 (l.drop at0) ∧
   wr.ownsRow (w.heap.size+1) 5 1 vm meant.length (Lib.byteCells meant)∧Below (w.heap.size+1) (w.alloc xt) wr) (fun _ a _=>l.length-(intOf a).toNat)
 case atStart=>exact ⟨l.length,1,[],rfl,hl1,by omega,by simp,rfl,World.ownsRow_nil _ _ _ _,Below.refl _ _⟩
 case round =>
  obtain ⟨f,at0,meant,rfl,aB,aA,am,aa,Q,A⟩:=hrel;have ae:Hid (yK l=Zj f meant at0 (l.drop at0)):=aa;have ab:Hid (Below (w.heap.size+1) (w.alloc xt) wr):=A;have HB:Hid (Below w.heap.size w wr):=HA.out.trans (A.mono (by omega))
  have R:=A.size;rw [World.size_alloc] at R;obtain ⟨y,ag⟩:=xR A;have HO:Hid (wr.ownsRow (w.heap.size+1) 5 1 u5 meant.length (Lib.byteCells meant)):=Q;clear aa A Q
  by_cases hlt:at0<l.length
  ·obtain ⟨x,r,z⟩:∃x r,l.drop at0=x::r:=⟨l[at0],l.drop (at0+1),List.drop_eq_getElem_cons hlt⟩
   have ah:l[at0]=x:=by
    have h:=List.drop_eq_getElem_cons hlt;rw [z] at h;exact (List.cons.inj h).1.symm
   have O:=fun wx=>qq wx l at0 hlt
   rw [ah] at O;obtain ⟨n,hn⟩:∃n,n=x.toNat:=⟨_,rfl⟩;rw [←hn] at O;have an:n<256:=by rw [hn];exact UInt8.toNat_lt x
   obtain ⟨Y,rfl⟩:∃Y,f=Y+1:=⟨f-1,by omega⟩
   have ak:Hid (yK l=if n=34 then ⟨3,meant,0,at0+1,0⟩ else if (vu (x::r)).2=0 then ⟨0,[],0,0,6⟩ else if meant.length=255 then ⟨0,[],0,0,5⟩ else Zj Y (meant++[(vu (x::r)).1.toUInt8]) (at0+(vu (x::r)).2) ((x::r).drop (vu (x::r)).2)):=show _=_ by
    rw [ae.out,z,hn];rfl
   have ap:=fun wx=>xQ wx l at0 (by omega)
   rw [z] at ap;have al:(x::r).length=l.length-at0:=by rw [←z,List.length_drop]
   have av:Hid (l.drop at0=x::r):=z;clear ah hn z
   by_cases h34:n=34
   ·have N:Hid (yK l=⟨3,meant,0,at0+1,0⟩):=show _=_ by rw [ak.out,if_pos h34]
    subst h34;obtain ⟨s,I,rfl,D,-,-,-⟩:=qn HO.out;have aC:=Qc wr s meant I D;clear D;go_wp2
    refine bodyPost_ret (v:=Z9 ⟨3,meant,0,at0+1,0⟩) (by simp [results,Tryz.results159,go_sem,Z9,y]) rfl ⟨by rw [N.out],?_⟩
    exact yL HB.out _ _ _ _ _
   ·have ay:((n:Int)==34)=false:=by rw [beq_eq_false_iff_ne];omega
    have J:=zc8 (x::r);have cb:=qt x r wr (by simp at al;omega) (HT.out.below HB.out (Nat.le_refl _))
    obtain ⟨c,sz,U⟩:∃c sz,vu (x::r)=(c,sz):=⟨_,_,rfl⟩;rw [U] at cb J;simp only at J
    have W:Hid (yK l=if sz=0 then ⟨0,[],0,0,6⟩ else if meant.length=255 then ⟨0,[],0,0,5⟩ else Zj Y (meant++[c.toUInt8]) (at0+sz) ((x::r).drop sz)):=show _=_ by
     rw [ak.out,if_neg h34,U]
    clear U h34;go_wp2_with fail
    refine cb.mono ?_;clear cb y ag;rintro e w2 ⟨rfl,L⟩;have ax:=L.size;have K:Below (w.heap.size+1) (w.alloc xt) w2:=ab.out.trans (L.mono R);obtain ⟨y,ag⟩:=xR K;have au:Hid (Below (w.heap.size+1) (w.alloc xt) w2):=K;have af:Hid (Below w.heap.size w w2):=HA.out.trans (K.mono (by omega))
    have V:Hid (w2.ownsRow (w.heap.size+1) 5 1 u5 meant.length (Lib.byteCells meant)):=yi HO.out L (Nat.le_refl _);clear L K HO ab
    by_cases hs0:sz=0
    ·have N:Hid (yK l=⟨0,[],0,0,6⟩):=show _=_ by rw [W.out,if_pos hs0]
     subst hs0;go_wp2
     refine bodyPost_ret (v:=Z9 ⟨0,[],0,0,6⟩) (by simp [results,Tryz.results159,go_sem,Z9,y]) rfl ⟨by rw [N.out],?_⟩
     exact yL af.out _ _ _ _ _
    ·have aw:((sz:Int)==0)=false:=by rw [beq_eq_false_iff_ne];omega
     obtain ⟨s,I,rfl,-,-,-,-⟩:=qn V.out;obtain ⟨Z,o⟩:∃Z,Z=meant.length:=⟨_,rfl⟩;have aj:Hid (Z=meant.length):=o;rw [←o]
     by_cases h255:Z=255
     ·have N:Hid (yK l=⟨0,[],0,0,5⟩):=show _=_ by rw [W.out,if_neg hs0,if_pos (by rw [←o];exact h255)]
      clear o;subst h255;go_wp2
      refine bodyPost_ret (v:=Z9 ⟨0,[],0,0,5⟩) (by simp [results,Tryz.results159,go_sem,Z9,y]) rfl ⟨by rw [N.out],?_⟩
      exact yL af.out _ _ _ _ _
     ·have aq:((Z:Int)==255)=false:=by rw [beq_eq_false_iff_ne];omega
      have N:Hid (yK l=Zj Y (meant++[c.toUInt8]) (at0+sz) (l.drop (at0+sz))):=show _=_ by
       rw [W.out,if_neg hs0,if_neg (by rw [←o];exact h255),←av.out,List.drop_drop]
      have ai:Hid (w2.ownsRow (w.heap.size+1) 5 1 (.slice s Z I) meant.length (Lib.byteCells meant)):=by rw [o];exact V.out
      have T:=J.2;have ad:=J.1;rw [al] at ad;have az:meant.length≤255:=am;clear o V J
      go_wp2_with (at_builtin;refine YT rfl _ _ rfl (w.heap.size+1) _ meant rfl (ai.out.alloc _) _ [c.toUInt8] rfl (Xv T (by simp)) (by simp;omega) (by simp;omega) ?_)
      intro v3 w3 H G;have ao:Hid (Below (w.heap.size+1) (w.alloc xt) w3):=(au.out.alloc (by omega) _).grown G (by simp;omega) (fun q hq=>(ai.out.lt q hq).1)
      have ar:Hid (w3.ownsRow (w.heap.size+1) 5 1 v3 (meant++[c.toUInt8]).length (Lib.byteCells (meant++[c.toUInt8]))):=by
       rw [show (meant++[c.toUInt8]).length=meant.length+1 by simp];exact H
      clear G H;go_wp2
      refine ⟨⟨Y,at0+sz,meant++[c.toUInt8],by go_num,by omega,by omega,?_,N.out,ar.out,ao.out⟩,by simp [intOf];omega⟩
      rw [List.length_append,List.length_singleton,←aj.out]
      have:=aj.out
      omega
  ·obtain rfl:at0=l.length:=by omega
   have N:Hid (yK l=⟨0,[],0,0,6⟩):=show _=_ by
    rw [ae.out,List.drop_length];cases f <;> rfl
   go_wp2
   refine bodyPost_ret (v:=Z9 ⟨0,[],0,0,6⟩) (by simp [results,Tryz.results159,go_sem,Z9,y]) rfl ⟨by rw [N.out],?_⟩
   exact yL HB.out _ _ _ _ _
def Zg (l:List UInt8):TR :=
 match l with
 | []=>⟨0,[],0,0,0⟩
 | x::_=>if ZJ x.toNat=true then Yk l else if ZB x.toNat=true then Xy l else if x.toNat=34 then yK l else Yu l
theorem zeo {x:UInt8} {r:List UInt8} (h:ZB x.toNat=true):digL (x::r)≠[]:=by
 unfold digL;simp [h]
theorem UP (l:List UInt8) (w:World) (hl:l.length≤140737488351232) (ht:yz w) :
  Calls Tryz.prog 129 #[.string (zb l)] w fun e w'=>e=.returned (Z9 (Zg l))∧Below w.heap.size w w':=by
 have W:Below w.heap.size w (w.alloc xt):=(Below.refl w.heap.size w).alloc (Nat.le_refl _) _;have N:Hid (Below w.heap.size w (w.alloc xt)):=W;have Q:Hid (yz (w.alloc xt)):=ht.alloc _;clear ht W;cases l with
 | nil =>
  go_enter Tryz.func129,Tryz.ntmps129
  go_wp2
  refine bodyPost_ret (v:=Z9 ⟨0,[],0,0,0⟩) (by simp [results,Tryz.results129,go_sem,Z9]) rfl ⟨rfl,?_⟩
  exact N.out
 | cons x r =>
  have I:=fun wx=>qq wx (x::r) 0 (by simp)
  rw [show ((0:Nat):Int)=0 from rfl,show (x::r)[0]=x from rfl] at I
  obtain ⟨n,O⟩:∃n,n=x.toNat:=⟨_,rfl⟩;rw [←O] at I;have D:n<256:=by rw [O];exact UInt8.toNat_lt x
  have G:Hid (Zg (x::r)=if ZJ n=true then Yk (x::r) else if ZB n=true then Xy (x::r) else if n=34 then yK (x::r) else Yu (x::r)):=show _=_ by rw [O];rfl
  have Y:Hid (ZB n=true→digL (x::r)≠[]):=fun h=>zeo (by rw [←O];exact h)
  have Z:¬ (x::r)=[]:=by simp
  clear O
  go_enter Tryz.func129,Tryz.ntmps129
  have aa:(x::r).length≤140737488351232:=hl;have H:Hid (∀(R:TR) (y:World),Below (w.alloc xt).heap.size (w.alloc xt) y→Below (w.heap.size+1) (w.alloc xt) y):=fun R y h=>by rw [World.size_alloc] at h;exact h
  have T:=Y6 n D (w.alloc xt);go_wp2_with fail
  refine T.mono ?_;clear T;rintro e y ⟨rfl,rfl⟩;cases h1:ZJ n with
  | true =>
   obtain ⟨R,A⟩:∃R,R=Yk (x::r):=⟨_,rfl⟩;have c1:=Ur (x::r) (w.alloc xt) (by omega) Q.out
   rw [←A] at c1;have L:Hid (Zg (x::r)=R):=show _=_ by rw [G.out,if_pos h1,A]
   unfold Z9 at c1
   clear A;go_wp2_with fail
   refine c1.mono ?_;clear c1;rintro e y ⟨rfl,s⟩;have o:=H.out R y s;obtain ⟨z,K⟩:=xR o;have J:Hid (Below w.heap.size w y):=N.out.trans (o.mono (by omega))
   clear s o;go_wp2
   refine bodyPost_ret (v:=Z9 R) (by simp [results,Tryz.results129,go_sem,Z9,z]) rfl ⟨by rw [L.out],?_⟩
   exact yL J.out _ _ _ _ _
  | false =>
   have V:=Xw n D (w.alloc xt);go_wp2_with fail
   refine V.mono ?_;clear V;rintro e y ⟨rfl,rfl⟩;cases h2:ZB n with
   | true =>
    obtain ⟨R,A⟩:∃R,R=Xy (x::r):=⟨_,rfl⟩;have c1:=V1 (x::r) (w.alloc xt) (by omega) (Y.out h2) Q.out
    rw [←A] at c1;have L:Hid (Zg (x::r)=R):=show _=_ by rw [G.out,if_neg (by rw [h1];simp),if_pos h2,A]
    unfold Z9 at c1
    clear A;go_wp2_with fail
    refine c1.mono ?_;clear c1;rintro e y ⟨rfl,s⟩;have o:=H.out R y s;obtain ⟨z,K⟩:=xR o;have J:Hid (Below w.heap.size w y):=N.out.trans (o.mono (by omega))
    clear s o;go_wp2
    refine bodyPost_ret (v:=Z9 R) (by simp [results,Tryz.results129,go_sem,Z9,z]) rfl ⟨by rw [L.out],?_⟩
    exact yL J.out _ _ _ _ _
   | false =>
    by_cases h34:n=34
    ·obtain ⟨R,A⟩:∃R,R=yK (x::r):=⟨_,rfl⟩
     have c1:=Uu (x::r) (w.alloc xt) (by omega) (by simp) Q.out
     rw [←A] at c1;have L:Hid (Zg (x::r)=R):=show _=_ by rw [G.out,if_neg (by rw [h1];simp),if_neg (by rw [h2];simp),if_pos h34,A]
     subst h34
     unfold Z9 at c1
     clear A;go_wp2_with fail
     refine c1.mono ?_;clear c1;rintro e y ⟨rfl,s⟩;have o:=H.out R y s;obtain ⟨z,K⟩:=xR o;have J:Hid (Below w.heap.size w y):=N.out.trans (o.mono (by omega))
     clear s o;go_wp2
     refine bodyPost_ret (v:=Z9 R) (by simp [results,Tryz.results129,go_sem,Z9,z]) rfl ⟨by rw [L.out],?_⟩
     exact yL J.out _ _ _ _ _
    ·obtain ⟨R,A⟩:∃R,R=Yu (x::r):=⟨_,rfl⟩
     have U:((n:Int)==34)=false:=by rw [beq_eq_false_iff_ne];omega
     have c1:=Us (x::r) (w.alloc xt) Q.out;rw [←A] at c1;have L:Hid (Zg (x::r)=R):=show _=_ by rw [G.out,if_neg (by rw [h1];simp),if_neg (by rw [h2];simp),if_neg h34,A]
     unfold Z9 at c1
     clear A;go_wp2_with fail
     refine c1.mono ?_;clear c1;rintro e y ⟨rfl,s⟩;have o:=H.out R y s;obtain ⟨z,K⟩:=xR o;have J:Hid (Below w.heap.size w y):=N.out.trans (o.mono (by omega))
     clear s o;go_wp2
     refine bodyPost_ret (v:=Z9 R) (by simp [results,Tryz.results129,go_sem,Z9,z]) rfl ⟨by rw [L.out],?_⟩
     exact yL J.out _ _ _ _ _
end Go.Proofs.YtpejpbbdgblbeaaGreatDoor

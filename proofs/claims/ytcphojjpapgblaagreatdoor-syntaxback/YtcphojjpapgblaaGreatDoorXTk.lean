import Derived.Test.YtcphojjpapgblaaGreatDoorMC0
import Derived.Deep.MidRow
import Derived.LoopN
namespace Go.Proofs.YtcphojjpapgblaaGreatDoor
open Go.RowKit
set_option maxHeartbeats 16000000
set_option maxRecDepth 100000
structure TR where
 k:Nat
 s:List UInt8
 n:Nat
 sz:Nat
 e:Nat
def yi (r:TR):Value:=.tuple #[.agg #[.int .i64 r.k,.string (zb r.s),.int .i64 r.n,.int .i64 0,.int .i64 0],.int .i64 r.sz,.int .i64 r.e]
def Z4 (l:List UInt8):List UInt8:=l.takeWhile fun c=>ym c.toNat
def Yf (l:List UInt8):TR:=if yh (Z4 l)=true then ⟨5,Z4 l,0,(Z4 l).length,0⟩ else if 20<(Z4 l).length then ⟨0,[],0,0,5⟩ else ⟨1,Z4 l,0,(Z4 l).length,0⟩
theorem VC (p:UInt8→Bool) (l:List UInt8):l.take (l.takeWhile p).length=l.takeWhile p:=by
 induction l with
 | nil=>rfl
 | cons x l ih =>
  by_cases h:p x=true
  ·simp [h,ih]
  ·simp [h]
theorem Ur (l:List UInt8):(Z4 l).length≤l.length:=(List.takeWhile_sublist _).length_le
theorem yH.alloc {w:World} (h:yH w) (o:Obj):yH (w.alloc o) :=
 ⟨fun j hj=>Lib.cell?_alloc_some o (h.words j hj),fun j hj=>Lib.cell?_alloc_some o (h.signs j hj),fun j hj=>Lib.cell?_alloc_some o (h.escs j hj),by obtain ⟨a,b,c⟩:=h.range;exact ⟨a,b,Lib.cell?_alloc_some o c⟩⟩
theorem yH.below {w w':World} {B:Nat} (h:yH w) (hb:Below B w w') (hB:w.heap.size≤B):yH w':=by
 have o:∀{p:Addr} {v:Value},w.cell? p=some v→w'.cell? p=some v:=fun {p v} hp=>by
  rw [hb.cell (Nat.lt_of_lt_of_le (World.block_lt_of_cell? w _ hp) hB)];exact hp
 exact ⟨fun j hj=>o (h.words j hj),fun j hj=>o (h.signs j hj),fun j hj=>o (h.escs j hj),by obtain ⟨a,b,c⟩:=h.range;exact ⟨a,b,o c⟩⟩
theorem qz (l:List UInt8) (w:World) (hl:l.length≤9223372036854775000) (ht:yH w) :
  Calls Tryz.prog 154 #[.string (zb l)] w fun e w'=>e=.returned (yi (Yf l))∧Below w.heap.size w w':=by
 have L:Hid (yH w):=ht;have A:=Ur l;obtain ⟨m,y⟩:∃m,m=(Z4 l).length:=⟨_,rfl⟩;rw [←y] at A;have z:=fun wx=>QN wx l m A
 rw [show l.take m=Z4 l by rw [y];exact VC _ l] at z
 have o:Hid (m=(Z4 l).length):=y;clear ht
 have J:Hid (∀wx,Calls Tryz.prog 147 #[.string (zb l),.func (.func 180) #[] #[]] wx fun e w'=>e=.returned (.int .i64 m)∧wx=w'):=fun wx=>by
  rw [y];exact zeV l wx hl
 have I:Hid (∀wx,yH wx→Calls Tryz.prog 181 #[.string (zb (Z4 l))] wx fun e w'=>e=.returned (.bool (yh (Z4 l)))∧wx=w'):=fun wx h=>zeX _ wx h
 clear y;have O:=(Below.refl w.heap.size w).alloc (Nat.le_refl _);obtain ⟨x,G⟩:∃x,x=Z4 l:=⟨_,rfl⟩;rw [←G] at z I o;have H:Hid (x=Z4 l):=G;clear G
 go_enter Tryz.func154,Tryz.ntmps154
 go_wp2_with fail
 refine (J.out _).mono ?_;rintro e N ⟨rfl,rfl⟩;go_wp2_with fail
 refine (I.out _ (L.out.alloc _)).mono ?_;rintro e N ⟨rfl,rfl⟩;cases hq:yh x with
 | true =>
  have D:Hid (Yf l=⟨5,x,0,m,0⟩):=by unfold Yf;rw [←H.out,if_pos hq,←o.out];rfl
  go_wp2
  refine bodyPost_ret (v:=yi ⟨5,x,0,m,0⟩) (by simp [results,Tryz.results154,go_sem,yi]) rfl ⟨by rw [D.out],?_⟩
  exact (Below.refl w.heap.size w).alloc (Nat.le_refl _) _
 | false =>
  by_cases h20:20<m
  ·have D:Hid (Yf l=⟨0,[],0,0,5⟩):=by unfold Yf;rw [←H.out,if_neg (by rw [hq];simp),if_pos (by rw [←o.out];exact h20)];rfl
   go_wp2
   refine bodyPost_ret (v:=yi ⟨0,[],0,0,5⟩) (by simp [results,Tryz.results154,go_sem,yi]) rfl ⟨by rw [D.out],?_⟩
   exact (Below.refl w.heap.size w).alloc (Nat.le_refl _) _
  ·have D:Hid (Yf l=⟨1,x,0,m,0⟩):=by unfold Yf;rw [←H.out,if_neg (by rw [hq];simp),if_neg (by rw [←o.out];exact h20),←o.out];rfl
   go_wp2
   refine bodyPost_ret (v:=yi ⟨1,x,0,m,0⟩) (by simp [results,Tryz.results154,go_sem,yi]) rfl ⟨by rw [D.out],?_⟩
   exact (Below.refl w.heap.size w).alloc (Nat.le_refl _) _
def valA (acc:Nat):List UInt8→Nat
 | []=>acc
 | c::r=>valA (acc*10+(c.toNat-48)) r
theorem zc8:∀(r:List UInt8) (acc:Nat),acc≤valA acc r
 | [],_=>Nat.le_refl _
 | c::r,acc=>Nat.le_trans (by omega) (zc8 r (acc*10+(c.toNat-48)))
theorem QP (ds:List UInt8):∀(o:Nat),(∀c∈ds,Zx c.toNat=true)→o<18446744073709551616 →
  Lib.parseUint10 o ds=if valA o ds<18446744073709551616 then .ok (valA o ds) else .range:=by
 induction ds with
 | nil =>
  intro o _ z;rw [show valA o []=o from rfl,if_pos z]
  rfl
 | cons c r ih =>
  intro o h z;have y:=h c (List.mem_cons_self ..)
  unfold Zx at y
  rw [Bool.and_eq_true,decide_eq_true_eq,decide_eq_true_eq] at y;have A:=zc8 r (o*10+(c.toNat-48));rw [show valA o (c::r)=valA (o*10+(c.toNat-48)) r from rfl]
  unfold Lib.parseUint10
  rw [if_pos y]
  by_cases h1:1844674407370955162≤o
  ·rw [if_pos h1,if_neg (by omega)]
  ·rw [if_neg h1]
   by_cases h2:18446744073709551616≤o*10+(c.toNat-48)
   ·rw [if_pos h2,if_neg (by omega)]
   ·rw [if_neg h2]
    exact ih _ (fun d hd=>h d (List.mem_cons_of_mem _ hd)) (by omega)
theorem zaC {ds:List UInt8} (h:∀c∈ds,Zx c.toNat=true) (hne:ds≠[]) :
  Lib.atoiAll ds=if valA 0 ds<9223372036854775808 then .ok (valA 0 ds:Int) else .range:=by
 cases ds with
 | nil=>exact absurd rfl hne
 | cons c r =>
  have y:=h c (List.mem_cons_self ..)
  unfold Zx at y
  rw [Bool.and_eq_true,decide_eq_true_eq,decide_eq_true_eq] at y;have A:¬ (c.toNat=43∨c.toNat=45):=by omega
  have o:¬ c.toNat=45:=by omega
  have z:Lib.parseMag (c::r)=if valA 0 (c::r)<18446744073709551616 then .ok (valA 0 (c::r)) else .range:=by
   unfold Lib.parseMag;rw [if_neg (by simp)];exact QP _ 0 h (by omega)
  generalize valA 0 (c::r)=v at z ⊢;have D:(if c.toNat=43∨c.toNat=45 then r else c::r)=c::r:=if_neg A
  unfold Lib.atoiAll
  simp only [D];rw [z]
  by_cases h3:v<18446744073709551616
  ·rw [if_pos h3]
   by_cases h4:v<9223372036854775808
   ·simp only
    rw [if_neg (by omega),if_neg (by omega),if_neg o,if_pos h4]
   ·simp only
    rw [if_pos ⟨o,by omega⟩,if_neg h4]
  ·rw [if_neg h3,if_neg (by omega)]
theorem VD {p:UInt8→Bool}:∀(l:List UInt8) (c:UInt8),c∈l.takeWhile p→p c=true
 | [],c,h=>by simp at h
 | x::l,c,h=>by
  by_cases hx:p x=true
  ·rw [List.takeWhile_cons_of_pos hx] at h
   rcases List.mem_cons.1 h with rfl | h
   ·exact hx
   ·exact VD l c h
  ·rw [List.takeWhile_cons_of_neg hx] at h
   simp at h
def digL (l:List UInt8):List UInt8:=l.takeWhile fun c=>Zx c.toNat
def XT (l:List UInt8):TR:=if valA 0 (digL l)<9223372036854775808 then ⟨2,[],valA 0 (digL l),(digL l).length,0⟩ else ⟨0,[],0,0,5⟩
theorem zc9 (l:List UInt8):(digL l).length≤l.length:=(List.takeWhile_sublist _).length_le
theorem zeY (l:List UInt8):∀c∈digL l,Zx c.toNat=true:=fun c hc=>VD (p:=fun c=>Zx c.toNat) l c hc
theorem uX (l:List UInt8) (w:World) (hl:l.length≤140737488351232) (hne:digL l≠[]) (ht:yH w) :
  Calls Tryz.prog 156 #[.string (zb l)] w fun e w'=>e=.returned (yi (XT l))∧Below w.heap.size w w':=by
 have HT:Hid (yH w):=ht;have J:=zc9 l;obtain ⟨m,D⟩:∃m,m=(digL l).length:=⟨_,rfl⟩;rw [←D] at J;have G:=fun wx=>QN wx l m J
 rw [show l.take m=digL l by rw [D];exact VC _ l] at G
 have N:Hid (m=(digL l).length):=D;have W:m≤140737488351232:=by omega
 clear ht
 have HN:Hid (∀wx,Calls Tryz.prog 147 #[.string (zb l),.func (.func 155) #[] #[]] wx fun e w'=>e=.returned (.int .i64 m)∧wx=w'):=fun wx=>by
  rw [D];exact zdI l wx (by omega)
 have y:=zaC (zeY l) hne;obtain ⟨x,O⟩:∃x,x=digL l:=⟨_,rfl⟩;rw [←O] at G N y;obtain ⟨v,Q⟩:∃v,v=valA 0 x:=⟨_,rfl⟩;rw [←Q] at y;have Y:Hid (x=digL l):=O;have X:Hid (v=valA 0 x):=Q;have A:Hid (Lib.atoiAll x=if v<9223372036854775808 then .ok (v:Int) else .range):=y
 clear O Q y D
 go_enter Tryz.func156,Tryz.ntmps156
 go_wp2_with fail
 refine (HN.out _).mono ?_;rintro e w1 ⟨rfl,rfl⟩
 by_cases h63:v<9223372036854775808
 ·have c1:=fun wx=>Tryz.strconv_Atoi_ok (zb x) (by rw [Zd,←N.out];omega) v (by show Lib.atoiAll x=_;rw [A.out,if_pos h63]) wx
  have U:Hid (XT l=⟨2,[],v,m,0⟩):=by unfold XT;rw [←Y.out,←X.out,if_pos h63,←N.out];rfl
  go_wp2_with fail
  refine (c1 _).mono ?_;clear c1;rintro e w1 ⟨rfl,L⟩
  have h:Below (w.heap.size+1) (w.alloc (Obj.cells #[Value.int IntKind.i64 0,Value.string ⟨#[]⟩,Value.int IntKind.i64 0,Value.int IntKind.i64 0,Value.int IntKind.i64 0] 65)) w1:=by
   rcases L with rfl | ⟨t,rfl⟩
   ·exact Below.refl _ _
   ·have I:=Lib.bytesWorld_below (w.alloc (Obj.cells #[Value.int IntKind.i64 0,Value.string ⟨#[]⟩,Value.int IntKind.i64 0,Value.int IntKind.i64 0,Value.int IntKind.i64 0] 65)) 5 t
    rw [World.size_alloc] at I;exact I
  clear L
  obtain ⟨z,R⟩:(∀o,w1.cell? ⟨w.heap.size,o,none⟩=(w.alloc (Obj.cells #[Value.int IntKind.i64 0,Value.string ⟨#[]⟩,Value.int IntKind.i64 0,Value.int IntKind.i64 0,Value.int IntKind.i64 0] 65)).cell? ⟨w.heap.size,o,none⟩)∧(∀o,w1.frozen? ⟨w.heap.size,o,none⟩=(w.alloc (Obj.cells #[Value.int IntKind.i64 0,Value.string ⟨#[]⟩,Value.int IntKind.i64 0,Value.int IntKind.i64 0,Value.int IntKind.i64 0] 65)).frozen? ⟨w.heap.size,o,none⟩) :=
   ⟨fun o=>h.cell (p:=⟨w.heap.size,o,none⟩) (by simp),fun o=>h.frozen (p:=⟨w.heap.size,o,none⟩) (by simp)⟩
  have T:Hid (Below w.heap.size w w1):=((Below.refl w.heap.size w).alloc (Nat.le_refl _) _).trans (h.mono (by omega))
  clear h;go_wp2
  refine bodyPost_ret (v:=yi ⟨2,[],v,m,0⟩) (by simp [results,Tryz.results156,go_sem,yi,z]) rfl ⟨by rw [U.out],?_⟩
  exact ((((T.out.setCell (p:=⟨w.heap.size,0,none⟩) (Nat.le_refl _) _).setCell (p:=⟨w.heap.size,1,none⟩) (Nat.le_refl _) _).setCell (p:=⟨w.heap.size,2,none⟩) (Nat.le_refl _) _).setCell (p:=⟨w.heap.size,3,none⟩) (Nat.le_refl _) _).setCell (p:=⟨w.heap.size,4,none⟩) (Nat.le_refl _) _
 ·obtain ⟨Z,V,H⟩:=HT.out.range
  have c1:=Tryz.strconv_Atoi_range (zb x) (by rw [Zd,←N.out];omega) (by show Lib.atoiAll x=_;rw [A.out,if_neg h63]) (.iface Z V) (w.alloc (Obj.cells #[Value.int IntKind.i64 0,Value.string ⟨#[]⟩,Value.int IntKind.i64 0,Value.int IntKind.i64 0,Value.int IntKind.i64 0] 65)) (Lib.cell?_alloc_some _ H) (.inr ⟨Z,V,rfl⟩)
  have U:Hid (XT l=⟨0,[],0,0,5⟩):=by unfold XT;rw [←Y.out,←X.out,if_neg h63];rfl
  go_wp2_with fail
  refine c1.mono ?_;clear c1;rintro e w1 ⟨NN,rfl,-,-,h⟩;rw [World.size_alloc] at h
  obtain ⟨z,R⟩:(∀o,w1.cell? ⟨w.heap.size,o,none⟩=(w.alloc (Obj.cells #[Value.int IntKind.i64 0,Value.string ⟨#[]⟩,Value.int IntKind.i64 0,Value.int IntKind.i64 0,Value.int IntKind.i64 0] 65)).cell? ⟨w.heap.size,o,none⟩)∧(∀o,w1.frozen? ⟨w.heap.size,o,none⟩=(w.alloc (Obj.cells #[Value.int IntKind.i64 0,Value.string ⟨#[]⟩,Value.int IntKind.i64 0,Value.int IntKind.i64 0,Value.int IntKind.i64 0] 65)).frozen? ⟨w.heap.size,o,none⟩) :=
   ⟨fun o=>h.cell (p:=⟨w.heap.size,o,none⟩) (by simp),fun o=>h.frozen (p:=⟨w.heap.size,o,none⟩) (by simp)⟩
  have T:Hid (Below w.heap.size w w1):=((Below.refl w.heap.size w).alloc (Nat.le_refl _) _).trans (h.mono (by omega))
  clear h H;go_wp2
  refine bodyPost_ret (v:=yi ⟨0,[],0,0,5⟩) (by simp [results,Tryz.results156,go_sem,yi,z]) rfl ⟨by rw [U.out],?_⟩
  exact ((((T.out.setCell (p:=⟨w.heap.size,0,none⟩) (Nat.le_refl _) _).setCell (p:=⟨w.heap.size,1,none⟩) (Nat.le_refl _) _).setCell (p:=⟨w.heap.size,2,none⟩) (Nat.le_refl _) _).setCell (p:=⟨w.heap.size,3,none⟩) (Nat.le_refl _) _).setCell (p:=⟨w.heap.size,4,none⟩) (Nat.le_refl _) _
def longer (l best x:List UInt8):List UInt8:=if best.length<x.length∧Lib.hasPrefix l x=true then x else best
def bestS (l:List UInt8) (n:Nat):List UInt8:=(signsL.take n).foldl (longer l) []
def Yu (l:List UInt8):TR:=if bestS l 25=[] then ⟨0,[],0,0,6⟩ else ⟨4,bestS l 25,0,(bestS l 25).length,0⟩
theorem zbV (l:List UInt8) (n:Nat) (h:n<signsL.length):bestS l (n+1)=longer l (bestS l n) signsL[n]:=by
 unfold bestS;rw [List.take_succ_eq_append_getElem h,List.foldl_append];rfl
theorem qV (l:List UInt8) (n:Nat):(bestS l n).length≤2:=by
 have z:∀(h:List (List UInt8)) (b:List UInt8),(∀x∈h,x.length≤2)→b.length≤2→(h.foldl (longer l) b).length≤2:=by
  intro h
  induction h with
  | nil=>intro b _ A;exact A
  | cons x h ih =>
   intro b o A;refine ih _ (fun y hy=>o y (List.mem_cons_of_mem _ hy)) ?_
   unfold longer
   split
   ·exact o x (List.mem_cons_self ..)
   ·exact A
 exact z _ _ (fun x o=>by
  have:∀x∈signsL,x.length≤2:=by decide
  exact this x (List.mem_of_mem_take o)) (by simp)
def V3:List Value:=signsL.map fun x=>.string (zb x)
def signsV:Value:=.agg V3.toArray
theorem zaD {w:World} (ht:yH w):w.rangeAt 3 0 V3:=fun j v hv=>by
 unfold V3 at hv
 rw [List.getElem?_map] at hv;rcases Nat.lt_or_ge j signsL.length with h | h
 ·rw [List.getElem?_eq_getElem h] at hv
  simp only [Option.map_some,Option.some.injEq] at hv;rw [Nat.zero_add,ht.signs j h,hv]
 ·rw [List.getElem?_eq_none h] at hv;cases hv
theorem zbW:(Tryz.prog.info? 215).map (·.size)=some V3.length:=by kernel_rfl
theorem qA (l:List UInt8) (w:World) (ht:yH w) :
  Calls Tryz.prog 158 #[.string (zb l)] w fun e w'=>e=.returned (yi (Yu l))∧Below w.heap.size w w':=by
 have V:Hid (yH w):=ht;clear ht
 go_enter Tryz.func158,Tryz.ntmps158
 go_wp2_with (refine wpList_load_mid rfl 215 _ rfl 3 0 rfl V3 _ (zaD (V.out.alloc _)) Tryz.underlying215 rfl zbW ?_)
 have T:Hid (∀(wx:World) (i:Nat) (h:i<25),(Instr.index 215 signsV (.int .i64 (i:Int))).run Tryz.prog wx=.ok (.string (zb (signsL[i]'h))) wx):=fun wx i h=>zdL wx i h
 rw [show Value.agg V3.toArray=signsV from rfl]
 generalize signsV=A at *
 go_loop [5,9] (fun vb v=>∃i:Nat,i≤25∧v=.int .i64 i∧vb=.string (zb (bestS l i))) (fun _ v=>25-(intOf v).toNat)
 case atStart=>exact ⟨0,Nat.zero_le _,rfl,rfl⟩
 case round =>
  obtain ⟨i,X,rfl,rfl⟩:=hrel;have N:=qV l i;obtain ⟨b,L⟩:∃b,b=bestS l i:=⟨_,rfl⟩;rw [←L] at N ⊢;have O:Hid (b=bestS l i):=L;clear L
  by_cases hlt:i<25
  ·have z:=fun wx=>T.out wx i hlt
   obtain ⟨x,G⟩:∃x,x=signsL[i]'hlt:=⟨_,rfl⟩;rw [←G] at z
   have R:x.length≤2:=by
    have:∀x∈signsL,x.length≤2:=by decide
    rw [G];exact this _ (List.getElem_mem _)
   have J:Hid (bestS l (i+1)=longer l b x):=show bestS l (i+1)=longer l b x by rw [zbV l i hlt,O.out,G]
   have U:(zb x).size=x.length:=rfl;have I:(zb b).size=b.length:=rfl;clear G
   by_cases hlen:b.length<x.length
   ·have H:=fun wx=>Tryz.strings_HasPrefix (zb l) (zb x) wx
    cases hp:Lib.hasPrefix l x with
    | true =>
     have D:Lib.hasPrefix (zb l).data.toList (zb x).data.toList=true:=hp;rw [D] at H;have o:Hid (bestS l (i+1)=x):=show bestS l (i+1)=x by rw [J.out];unfold longer;rw [if_pos ⟨hlen,hp⟩]
     clear D;go_wp2_with (go_at_call 138;refine (H _).mono ?_;rintro e W ⟨rfl,rfl⟩)
     refine ⟨⟨i+1,by omega,by go_num,by rw [o.out]⟩,by simp [intOf];omega⟩
    | false =>
     have D:Lib.hasPrefix (zb l).data.toList (zb x).data.toList=false:=hp;rw [D] at H;have o:Hid (bestS l (i+1)=b):=show bestS l (i+1)=b by rw [J.out];unfold longer;rw [if_neg (fun h=>by rw [hp] at h;exact absurd h.2 (by decide))]
     clear D;go_wp2_with (go_at_call 138;refine (H _).mono ?_;rintro e W ⟨rfl,rfl⟩)
     refine ⟨⟨i+1,by omega,by go_num,by rw [o.out]⟩,by simp [intOf];omega⟩
   ·have o:Hid (bestS l (i+1)=b):=show bestS l (i+1)=b by rw [J.out];unfold longer;rw [if_neg (fun h=>hlen h.1)]
    go_wp2
    refine ⟨⟨i+1,by omega,by go_num,by rw [o.out]⟩,by simp [intOf];omega⟩
  ·obtain rfl:i=25:=by omega
   have I:(zb b).size=b.length:=rfl;cases b with
   | nil =>
    have Q:Hid (Yu l=⟨0,[],0,0,6⟩):=by unfold Yu;rw [←O.out,if_pos rfl];rfl
    go_wp2
    refine bodyPost_ret (v:=yi ⟨0,[],0,0,6⟩) (by simp [results,Tryz.results158,go_sem,yi]) rfl ⟨by rw [Q.out],?_⟩
    exact (Below.refl w.heap.size w).alloc (Nat.le_refl _) _
   | cons y ys =>
    have Q:Hid (Yu l=⟨4,y::ys,0,(y::ys).length,0⟩):=by unfold Yu;rw [←O.out,if_neg (by simp)];rfl
    go_wp2
    refine bodyPost_ret (v:=yi ⟨4,y::ys,0,(y::ys).length,0⟩) (by simp [results,Tryz.results158,go_sem,yi]) rfl ⟨by rw [Q.out],?_⟩
    exact (Below.refl w.heap.size w).alloc (Nat.le_refl _) _
def v6:List UInt8→Nat × Nat
 | []=>(0,0)
 | x::r=>if x.toNat<32∨126<x.toNat then (0,0) else if x.toNat≠92 then (x.toNat,1) else
  match r with
  | []=>(0,0)
  | y::_=>if y.toNat=92 then (92,2) else if y.toNat=34 then (34,2) else if y.toNat=110 then (10,2) else (0,0)
theorem QQ (w:World) (l:List UInt8) (i:Nat) (h:i<l.length):(Instr.index 9 (.string (zb l)) (.int .i64 (i:Int))).run Tryz.prog w=.ok (.int .u8 ((l[i]).toNat:Int)) w:=by
 rw [run_index_string (P:=Tryz.prog) (w:=w) 9 (zb l) .i64 _ Tryz.underlying9,dif_pos ⟨by omega,by rw [Zd];omega⟩]
 simp only [Int.toNat_natCast]
 rfl
theorem qW {a:Nat × Nat} {c k:Nat} (h:a=(c,k)):(Ending.returned (.tuple #[.int .u8 (c:Int),.int .i64 (k:Int)]):Ending)=.returned (.tuple #[.int .u8 (a.1:Int),.int .i64 (a.2:Int)]):=by rw [h]
theorem Uc {x:UInt8} {r:List UInt8} (h:x.toNat<32∨126<x.toNat):v6 (x::r)=(0,0):=by
 show (if _ then _ else _)=_;rw [if_pos h]
theorem Ud {x:UInt8} {r:List UInt8} (h:¬ (x.toNat<32∨126<x.toNat)) (h2:x.toNat≠92):v6 (x::r)=(x.toNat,1):=by
 show (if _ then _ else _)=_;rw [if_neg h,if_pos h2]
theorem QR {x:UInt8} (h:¬ (x.toNat<32∨126<x.toNat)) (h2:x.toNat=92):v6 [x]=(0,0):=by
 show (if _ then _ else _)=_;rw [if_neg h,if_neg (by omega)]
def tbE (m:Nat):Nat × Nat:=if m=92 then (92,2) else if m=34 then (34,2) else if m=110 then (10,2) else (0,0)
theorem QS {x y:UInt8} {t:List UInt8} (h:¬ (x.toNat<32∨126<x.toNat)) (h2:x.toNat=92):v6 (x::y::t)=tbE y.toNat:=by
 show (if _ then _ else _)=_;rw [if_neg h,if_neg (by omega)];rfl
def uY:List Nat:=[92,34,110]
def qB:List Nat:=[92,34,10]
theorem zhS {m i:Nat} (hi:i<3) (h:∀j (hj:j<3),j<i→(uY[j]'hj)≠m) (he:(uY[i]'hi)=m):tbE m=((qB[i]'hi),2):=by
 have o:i=0∨i=1∨i=2:=by omega
 rcases o with rfl | rfl | rfl
 ·rw [←he];rfl
 ·rw [←he];rfl
 ·rw [←he];rfl
theorem zgy {m:Nat} (h:∀j (hj:j<3),(uY[j]'hj)≠m):tbE m=(0,0):=by
 have z:92≠m:=h 0 (by decide)
 have y:34≠m:=h 1 (by decide)
 have o:110≠m:=h 2 (by decide)
 unfold tbE
 rw [if_neg (by omega),if_neg (by omega),if_neg (by omega)]
theorem zaE (w:World) (i:Nat) (h:i<3):(Instr.index 228 (.agg #[.int .u8 92,.int .u8 92,.int .u8 34,.int .u8 34,.int .u8 10,.int .u8 110]) (.int .i64 (i:Int))).run Tryz.prog w=.ok (.agg #[.int .u8 ((qB[i]'h:Nat):Int),.int .u8 ((uY[i]'h:Nat):Int)]) w:=by
 have o:i=0∨i=1∨i=2:=by omega
 rcases o with rfl | rfl | rfl
 all_goals rfl
theorem QT (x:UInt8) (r:List UInt8) (w:World) (hl:r.length≤9223372036854775000) (ht:yH w) :
  Calls Tryz.prog 183 #[.string (zb (x::r))] w fun e w'=>e=.returned (.tuple #[.int .u8 (v6 (x::r)).1,.int .i64 (v6 (x::r)).2])∧Below w.heap.size w w':=by
 have V:=fun wx=>QQ wx (x::r) 0 (by simp)
 rw [show ((0:Nat):Int)=0 from rfl,show (x::r)[0]=x from rfl] at V
 have z:(zb (x::r)).size=r.length+1:=rfl;obtain ⟨n,o⟩:∃n,n=x.toNat:=⟨_,rfl⟩;have W:n<256:=by rw [o];exact UInt8.toNat_lt x
 rw [←o] at V;obtain ⟨S,J⟩:∃S,S=zb (x::r):=⟨_,rfl⟩;rw [←J] at V z ⊢;have e0:=ht.escs 0 (by decide)
 have e1:=ht.escs 1 (by decide)
 have X:=ht.escs 2 (by decide)
 have Y:=ht.escs 3 (by decide)
 have e4:=ht.escs 4 (by decide)
 have Z:=ht.escs 5 (by decide)
 simp only [List.getElem_cons_zero,List.getElem_cons_succ] at e0 e1 X Y e4 Z;clear ht
 by_cases hbad:n<32∨126<n
 ·have A:Hid (v6 (x::r)=(0,0)):=Uc (by rw [←o];exact hbad)
  clear J o;rcases hbad with I | I
  ·go_enter Tryz.func183,Tryz.ntmps183
   go_wp2
   go_ret2
   exact ⟨qW A.out,Below.refl _ _⟩
  ·go_enter Tryz.func183,Tryz.ntmps183
   go_wp2
   go_ret2
   exact ⟨qW A.out,Below.refl _ _⟩
 ·by_cases h92:n=92
  ·cases r with
   | nil =>
    have A:Hid (v6 [x]=(0,0)):=QR (by rw [←o];exact hbad) (by rw [←o];exact h92)
    have ab:S.size=1:=z;clear J o hbad z;subst h92
    go_enter Tryz.func183,Tryz.ntmps183
    go_wp2
    go_ret2
    exact ⟨qW A.out,Below.refl _ _⟩
   | cons y t =>
    have h1:=fun wx=>QQ wx (x::y::t) 1 (by simp)
    rw [show ((1:Nat):Int)=1 from rfl,show (x::y::t)[1]=y from rfl] at h1
    obtain ⟨m,Q⟩:∃m,m=y.toNat:=⟨_,rfl⟩;have R:m<256:=by rw [Q];exact UInt8.toNat_lt y
    rw [←Q,←J] at h1;have N:Hid (v6 (x::y::t)=tbE m):=show _=_ by rw [Q];exact QS (by rw [←o];exact hbad) (by rw [←o];exact h92)
    have ad:S.size=t.length+2:=z;have aa:((t.length:Int)+2==1)=false:=by rw [beq_eq_false_iff_ne];omega
    have ah:t.length+1≤9223372036854775000:=by simpa using hl
    clear J o hbad z Q hl;subst h92
    go_enter Tryz.func183,Tryz.ntmps183
    go_wp2
    clear e0 e1 X Y e4 Z
    go_loopw [26] (fun v wr=>∃i:Nat,i≤3∧v=.int .i64 i∧(∀j (hj:j<3),j<i→(uY[j]'hj)≠m)∧Below w.heap.size w wr) (fun v _=>3-(intOf v).toNat)
    case atStart=>exact ⟨0,Nat.zero_le _,rfl,fun j _ h=>by omega,Below.refl _ _⟩
    case round =>
     obtain ⟨i,hi,rfl,G,H⟩:=hrel;have T:Hid (∀j (hj:j<3),j<i→(uY[j]'hj)≠m):=G;have U:Hid (Below w.heap.size w wr):=H;have D:=H.size;clear G H
     by_cases hlt:i<3
     ·have L:=fun wx=>zaE wx i hlt
      obtain ⟨a,O⟩:∃a,a=qB[i]'hlt:=⟨_,rfl⟩;obtain ⟨b,I⟩:∃b,b=uY[i]'hlt:=⟨_,rfl⟩;rw [←O,←I] at L
      by_cases he:b=m
      ·have A:Hid (v6 (x::y::t)=(a,2)):=show _=_ by rw [N.out,O];exact zhS hlt T.out (by rw [←I];exact he)
       subst he;clear O I;go_wp2
       go_quiet (fail)
       go_wp2
       go_ret2
       refine ⟨qW A.out,?_⟩;exact (U.out.alloc D _).trans ⟨rfl,rfl,rfl,Nat.le_refl _,fun _ _=>rfl⟩
      ·have ag:((b:Int)==(m:Int))=false:=by rw [beq_eq_false_iff_ne];omega
       have HE:Hid ((uY[i]'hlt)≠m):=show (uY[i]'hlt)≠m by rw [←I];exact he
       clear O I he;go_wp2
       go_quiet (fail)
       go_wp2
       refine ⟨⟨i+1,by omega,by go_num,fun j hj hji=>?_,(U.out.alloc D _).trans ⟨rfl,rfl,rfl,Nat.le_refl _,fun _ _=>rfl⟩⟩,by simp [intOf];omega⟩
       by_cases h:j<i
       ·exact T.out j hj h
       ·obtain rfl:j=i:=by omega
        exact HE.out
     ·obtain rfl:i=3:=by omega
      have A:Hid (v6 (x::y::t)=(0,0)):=show _=_ by rw [N.out];exact zgy (fun j hj=>T.out j hj hj)
      go_wp2
      go_ret2
      exact ⟨qW A.out,U.out⟩
  ·have A:Hid (v6 (x::r)=(n,1)):=show v6 (x::r)=(n,1) by rw [o];exact Ud (by rw [←o];exact hbad) (by rw [←o];exact h92)
   have ae:32≤n:=by omega
   have af:n≤126:=by omega
   clear J o hbad
   go_enter Tryz.func183,Tryz.ntmps183
   go_wp2
   go_ret2
   exact ⟨qW A.out,Below.refl _ _⟩
def Zo:Nat→List UInt8→Nat→List UInt8→TR
 | 0,_,_,_=>⟨0,[],0,0,6⟩
 | _+1,_,_,[]=>⟨0,[],0,0,6⟩
 | f+1,meant,at0,x::r=>if x.toNat=34 then ⟨3,meant,0,at0+1,0⟩ else if (v6 (x::r)).2=0 then ⟨0,[],0,0,6⟩ else if meant.length=255 then ⟨0,[],0,0,5⟩
  else Zo f (meant++[(v6 (x::r)).1.toUInt8]) (at0+(v6 (x::r)).2) ((x::r).drop (v6 (x::r)).2)
def yT (l:List UInt8):TR:=Zo l.length [] 1 (l.drop 1)
theorem zeZ (l:List UInt8):(v6 l).2≤l.length∧(v6 l).1<256:=by
 cases l with
 | nil=>exact ⟨Nat.le_refl _,by decide⟩
 | cons x r =>
  by_cases h:x.toNat<32∨126<x.toNat
  ·rw [Uc h];simp
  ·by_cases h2:x.toNat=92
   ·cases r with
    | nil=>rw [QR h h2];simp
    | cons y t =>
     rw [QS h h2]
     unfold tbE
     split
     ·simp
     ·split
      ·simp
      ·split <;> simp
   ·rw [Ud h h2]
    have:=UInt8.toNat_lt x
    simp;omega
abbrev xK:Obj:=Obj.cells #[Value.int IntKind.i64 0,Value.string ⟨#[]⟩,Value.int IntKind.i64 0,Value.int IntKind.i64 0,Value.int IntKind.i64 0] 65
theorem Xe {w w1:World} (hb:Below (w.heap.size+1) (w.alloc xK) w1) :
  (∀o,w1.cell? ⟨w.heap.size,o,none⟩=(w.alloc xK).cell? ⟨w.heap.size,o,none⟩)∧(∀o,w1.frozen? ⟨w.heap.size,o,none⟩=(w.alloc xK).frozen? ⟨w.heap.size,o,none⟩) :=
 ⟨fun o=>hb.cell (p:=⟨w.heap.size,o,none⟩) (by simp),fun o=>hb.frozen (p:=⟨w.heap.size,o,none⟩) (by simp)⟩
theorem yU {w w1:World} (h:Below w.heap.size w w1) (a b c d e:Value) :
  Below w.heap.size w (((((w1.setCell ⟨w.heap.size,0,none⟩ a).setCell ⟨w.heap.size,1,none⟩ b).setCell ⟨w.heap.size,2,none⟩ c).setCell ⟨w.heap.size,3,none⟩ d).setCell ⟨w.heap.size,4,none⟩ e) :=
 ((((h.setCell (p:=⟨w.heap.size,0,none⟩) (Nat.le_refl _) _).setCell (p:=⟨w.heap.size,1,none⟩) (Nat.le_refl _) _).setCell (p:=⟨w.heap.size,2,none⟩) (Nat.le_refl _) _).setCell (p:=⟨w.heap.size,3,none⟩) (Nat.le_refl _) _).setCell (p:=⟨w.heap.size,4,none⟩) (Nat.le_refl _) _
theorem V4 {w w':World} {B C e n:Nat} {v:Value} {xs:List Value} (h:w.ownsRow B e 1 v n xs) (hb:Below C w w') (hC:w.heap.size≤C):w'.ownsRow B e 1 v n xs :=
 h.kept (row:=none) ⟨hb.os,hb.tape,hb.output,hb.size,fun k hk _=>hb.block k (by omega)⟩ (by cases h':v.ownBlock <;> simp)
theorem qC (l:List UInt8) (w:World) (hl:l.length≤140737488351232) (hl1:1≤l.length) (ht:yH w) :
  Calls Tryz.prog 157 #[.string (zb l)] w fun e w'=>e=.returned (yi (yT l))∧Below w.heap.size w w':=by
 have HT:Hid (yH w):=ht;have aD:(zb l).size=l.length:=rfl;have hA:Below w.heap.size w (w.alloc xK):=(Below.refl w.heap.size w).alloc (Nat.le_refl _) _;have HA:Hid (Below w.heap.size w (w.alloc xK)):=hA;clear ht hA
 go_enter Tryz.func157,Tryz.ntmps157
 go_wp2
 go_loopw [5,6] (fun vm va wr=>∃(f at0:Nat) (meant:List UInt8),va=.int .i64 at0∧at0≤l.length∧l.length≤at0+f∧meant.length≤255∧yT l=Zo f meant at0 (l.drop at0) ∧
   wr.ownsRow (w.heap.size+1) 5 1 vm meant.length (Lib.byteCells meant)∧Below (w.heap.size+1) (w.alloc xK) wr) (fun _ a _=>l.length-(intOf a).toNat)
 case atStart=>exact ⟨l.length,1,[],rfl,hl1,by omega,by simp,rfl,World.ownsRow_nil _ _ _ _,Below.refl _ _⟩
 case round =>
  obtain ⟨f,at0,meant,rfl,aA,aB,ar,ae,T,G⟩:=hrel;have af:Hid (yT l=Zo f meant at0 (l.drop at0)):=ae;have ah:Hid (Below (w.heap.size+1) (w.alloc xK) wr):=G;have HB:Hid (Below w.heap.size w wr):=HA.out.trans (G.mono (by omega))
  have U:=G.size;rw [World.size_alloc] at U;obtain ⟨A,ai⟩:=Xe G;have HO:Hid (wr.ownsRow (w.heap.size+1) 5 1 u5 meant.length (Lib.byteCells meant)):=T;clear ae G T
  by_cases hlt:at0<l.length
  ·obtain ⟨x,r,z⟩:∃x r,l.drop at0=x::r:=⟨l[at0],l.drop (at0+1),List.drop_eq_getElem_cons hlt⟩
   have aa:l[at0]=x:=by
    have h:=List.drop_eq_getElem_cons hlt;rw [z] at h;exact (List.cons.inj h).1.symm
   have R:=fun wx=>QQ wx l at0 hlt
   rw [aa] at R;obtain ⟨n,hn⟩:∃n,n=x.toNat:=⟨_,rfl⟩;rw [←hn] at R;have av:n<256:=by rw [hn];exact UInt8.toNat_lt x
   obtain ⟨f',rfl⟩:∃f',f=f'+1:=⟨f-1,by omega⟩
   have ab:Hid (yT l=if n=34 then ⟨3,meant,0,at0+1,0⟩ else if (v6 (x::r)).2=0 then ⟨0,[],0,0,6⟩ else if meant.length=255 then ⟨0,[],0,0,5⟩ else Zo f' (meant++[(v6 (x::r)).1.toUInt8]) (at0+(v6 (x::r)).2) ((x::r).drop (v6 (x::r)).2)):=show _=_ by
    rw [af.out,z,hn];rfl
   have aq:=fun wx=>Xd wx l at0 (by omega)
   rw [z] at aq;have aj:(x::r).length=l.length-at0:=by rw [←z,List.length_drop]
   have ao:Hid (l.drop at0=x::r):=z;clear aa hn z
   by_cases h34:n=34
   ·have Q:Hid (yT l=⟨3,meant,0,at0+1,0⟩):=show _=_ by rw [ab.out,if_pos h34]
    subst h34;obtain ⟨y,H,rfl,J,-,-,-⟩:=QM HO.out;have aC:=zaA wr y meant H J;clear J;go_wp2
    refine bodyPost_ret (v:=yi ⟨3,meant,0,at0+1,0⟩) (by simp [results,Tryz.results157,go_sem,yi,A]) rfl ⟨by rw [Q.out],?_⟩
    exact yU HB.out _ _ _ _ _
   ·have ay:((n:Int)==34)=false:=by rw [beq_eq_false_iff_ne];omega
    have L:=zeZ (x::r);have cb:=QT x r wr (by simp at aj;omega) (HT.out.below HB.out (Nat.le_refl _))
    obtain ⟨c,sz,W⟩:∃c sz,v6 (x::r)=(c,sz):=⟨_,_,rfl⟩;rw [W] at cb L;simp only at L
    have Y:Hid (yT l=if sz=0 then ⟨0,[],0,0,6⟩ else if meant.length=255 then ⟨0,[],0,0,5⟩ else Zo f' (meant++[c.toUInt8]) (at0+sz) ((x::r).drop sz)):=show _=_ by
     rw [ab.out,if_neg h34,W]
    clear W h34;go_wp2_with fail
    refine cb.mono ?_;clear cb A ai;rintro e w2 ⟨rfl,O⟩;have aw:=O.size;have N:Below (w.heap.size+1) (w.alloc xK) w2:=ah.out.trans (O.mono U);obtain ⟨A,ai⟩:=Xe N;have am:Hid (Below (w.heap.size+1) (w.alloc xK) w2):=N;have ag:Hid (Below w.heap.size w w2):=HA.out.trans (N.mono (by omega))
    have V:Hid (w2.ownsRow (w.heap.size+1) 5 1 u5 meant.length (Lib.byteCells meant)):=V4 HO.out O (Nat.le_refl _);clear O N HO ah
    by_cases hs0:sz=0
    ·have Q:Hid (yT l=⟨0,[],0,0,6⟩):=show _=_ by rw [Y.out,if_pos hs0]
     subst hs0;go_wp2
     refine bodyPost_ret (v:=yi ⟨0,[],0,0,6⟩) (by simp [results,Tryz.results157,go_sem,yi,A]) rfl ⟨by rw [Q.out],?_⟩
     exact yU ag.out _ _ _ _ _
    ·have ax:((sz:Int)==0)=false:=by rw [beq_eq_false_iff_ne];omega
     obtain ⟨y,H,rfl,-,-,-,-⟩:=QM V.out;obtain ⟨Z,o⟩:∃Z,Z=meant.length:=⟨_,rfl⟩;have al:Hid (Z=meant.length):=o;rw [←o]
     by_cases h255:Z=255
     ·have Q:Hid (yT l=⟨0,[],0,0,5⟩):=show _=_ by rw [Y.out,if_neg hs0,if_pos (by rw [←o];exact h255)]
      clear o;subst h255;go_wp2
      refine bodyPost_ret (v:=yi ⟨0,[],0,0,5⟩) (by simp [results,Tryz.results157,go_sem,yi,A]) rfl ⟨by rw [Q.out],?_⟩
      exact yU ag.out _ _ _ _ _
     ·have an:((Z:Int)==255)=false:=by rw [beq_eq_false_iff_ne];omega
      have Q:Hid (yT l=Zo f' (meant++[c.toUInt8]) (at0+sz) (l.drop (at0+sz))):=show _=_ by
       rw [Y.out,if_neg hs0,if_neg (by rw [←o];exact h255),←ao.out,List.drop_drop]
      have ad:Hid (w2.ownsRow (w.heap.size+1) 5 1 (.slice y Z H) meant.length (Lib.byteCells meant)):=by rw [o];exact V.out
      have X:=L.2;have ak:=L.1;rw [aj] at ak;have az:meant.length≤255:=ar;clear o V L
      go_wp2_with (at_builtin;refine Y5 rfl _ _ rfl (w.heap.size+1) _ meant rfl (ad.out.alloc _) _ [c.toUInt8] rfl (XP X (by simp)) (by simp;omega) (by simp;omega) ?_)
      intro v3 w3 I D;have ap:Hid (Below (w.heap.size+1) (w.alloc xK) w3):=(am.out.alloc (by omega) _).grown D (by simp;omega) (fun q hq=>(ad.out.lt q hq).1)
      have au:Hid (w3.ownsRow (w.heap.size+1) 5 1 v3 (meant++[c.toUInt8]).length (Lib.byteCells (meant++[c.toUInt8]))):=by
       rw [show (meant++[c.toUInt8]).length=meant.length+1 by simp];exact I
      clear D I;go_wp2
      refine ⟨⟨f',at0+sz,meant++[c.toUInt8],by go_num,by omega,by omega,?_,Q.out,au.out,ap.out⟩,by simp [intOf];omega⟩
      rw [List.length_append,List.length_singleton,←al.out]
      have:=al.out
      omega
  ·obtain rfl:at0=l.length:=by omega
   have Q:Hid (yT l=⟨0,[],0,0,6⟩):=show _=_ by
    rw [af.out,List.drop_length];cases f <;> rfl
   go_wp2
   refine bodyPost_ret (v:=yi ⟨0,[],0,0,6⟩) (by simp [results,Tryz.results157,go_sem,yi,A]) rfl ⟨by rw [Q.out],?_⟩
   exact yU HB.out _ _ _ _ _
def Zb (l:List UInt8):TR :=
 match l with
 | []=>⟨0,[],0,0,0⟩
 | x::_=>if Zw x.toNat=true then Yf l else if Zx x.toNat=true then XT l else if x.toNat=34 then yT l else Yu l
theorem zgz {x:UInt8} {r:List UInt8} (h:Zx x.toNat=true):digL (x::r)≠[]:=by
 unfold digL;simp [h]
theorem qX (l:List UInt8) (w:World) (hl:l.length≤140737488351232) (ht:yH w) :
  Calls Tryz.prog 127 #[.string (zb l)] w fun e w'=>e=.returned (yi (Zb l))∧Below w.heap.size w w':=by
 have X:Below w.heap.size w (w.alloc xK):=(Below.refl w.heap.size w).alloc (Nat.le_refl _) _;have Q:Hid (Below w.heap.size w (w.alloc xK)):=X;have U:Hid (yH (w.alloc xK)):=ht.alloc _;clear ht X;cases l with
 | nil =>
  go_enter Tryz.func127,Tryz.ntmps127
  go_wp2
  refine bodyPost_ret (v:=yi ⟨0,[],0,0,0⟩) (by simp [results,Tryz.results127,go_sem,yi]) rfl ⟨rfl,?_⟩
  exact Q.out
 | cons x r =>
  have J:=fun wx=>QQ wx (x::r) 0 (by simp)
  rw [show ((0:Nat):Int)=0 from rfl,show (x::r)[0]=x from rfl] at J
  obtain ⟨n,T⟩:∃n,n=x.toNat:=⟨_,rfl⟩;rw [←T] at J;have G:n<256:=by rw [T];exact UInt8.toNat_lt x
  have I:Hid (Zb (x::r)=if Zw n=true then Yf (x::r) else if Zx n=true then XT (x::r) else if n=34 then yT (x::r) else Yu (x::r)):=show _=_ by rw [T];rfl
  have Z:Hid (Zx n=true→digL (x::r)≠[]):=fun h=>zgz (by rw [←T];exact h)
  have ab:¬ (x::r)=[]:=by simp
  clear T
  go_enter Tryz.func127,Tryz.ntmps127
  have aa:(x::r).length≤140737488351232:=hl;have H:Hid (∀(R:TR) (z:World),Below (w.alloc xK).heap.size (w.alloc xK) z→Below (w.heap.size+1) (w.alloc xK) z):=fun R z h=>by rw [World.size_alloc] at h;exact h
  have Y:=xo n G (w.alloc xK);go_wp2_with fail
  refine Y.mono ?_;clear Y;rintro e z ⟨rfl,rfl⟩;cases h1:Zw n with
  | true =>
   obtain ⟨R,D⟩:∃R,R=Yf (x::r):=⟨_,rfl⟩;have c1:=qz (x::r) (w.alloc xK) (by omega) U.out
   rw [←D] at c1;have O:Hid (Zb (x::r)=R):=show _=_ by rw [I.out,if_pos h1,D]
   unfold yi at c1
   clear D;go_wp2_with fail
   refine c1.mono ?_;clear c1;rintro e z ⟨rfl,y⟩;have o:=H.out R z y;obtain ⟨A,L⟩:=Xe o;have N:Hid (Below w.heap.size w z):=Q.out.trans (o.mono (by omega))
   clear y o;go_wp2
   refine bodyPost_ret (v:=yi R) (by simp [results,Tryz.results127,go_sem,yi,A]) rfl ⟨by rw [O.out],?_⟩
   exact yU N.out _ _ _ _ _
  | false =>
   have W:=XQ n G (w.alloc xK);go_wp2_with fail
   refine W.mono ?_;clear W;rintro e z ⟨rfl,rfl⟩;cases h2:Zx n with
   | true =>
    obtain ⟨R,D⟩:∃R,R=XT (x::r):=⟨_,rfl⟩;have c1:=uX (x::r) (w.alloc xK) (by omega) (Z.out h2) U.out
    rw [←D] at c1;have O:Hid (Zb (x::r)=R):=show _=_ by rw [I.out,if_neg (by rw [h1];simp),if_pos h2,D]
    unfold yi at c1
    clear D;go_wp2_with fail
    refine c1.mono ?_;clear c1;rintro e z ⟨rfl,y⟩;have o:=H.out R z y;obtain ⟨A,L⟩:=Xe o;have N:Hid (Below w.heap.size w z):=Q.out.trans (o.mono (by omega))
    clear y o;go_wp2
    refine bodyPost_ret (v:=yi R) (by simp [results,Tryz.results127,go_sem,yi,A]) rfl ⟨by rw [O.out],?_⟩
    exact yU N.out _ _ _ _ _
   | false =>
    by_cases h34:n=34
    ·obtain ⟨R,D⟩:∃R,R=yT (x::r):=⟨_,rfl⟩
     have c1:=qC (x::r) (w.alloc xK) (by omega) (by simp) U.out
     rw [←D] at c1;have O:Hid (Zb (x::r)=R):=show _=_ by rw [I.out,if_neg (by rw [h1];simp),if_neg (by rw [h2];simp),if_pos h34,D]
     subst h34
     unfold yi at c1
     clear D;go_wp2_with fail
     refine c1.mono ?_;clear c1;rintro e z ⟨rfl,y⟩;have o:=H.out R z y;obtain ⟨A,L⟩:=Xe o;have N:Hid (Below w.heap.size w z):=Q.out.trans (o.mono (by omega))
     clear y o;go_wp2
     refine bodyPost_ret (v:=yi R) (by simp [results,Tryz.results127,go_sem,yi,A]) rfl ⟨by rw [O.out],?_⟩
     exact yU N.out _ _ _ _ _
    ·obtain ⟨R,D⟩:∃R,R=Yu (x::r):=⟨_,rfl⟩
     have V:((n:Int)==34)=false:=by rw [beq_eq_false_iff_ne];omega
     have c1:=qA (x::r) (w.alloc xK) U.out;rw [←D] at c1;have O:Hid (Zb (x::r)=R):=show _=_ by rw [I.out,if_neg (by rw [h1];simp),if_neg (by rw [h2];simp),if_neg h34,D]
     unfold yi at c1
     clear D;go_wp2_with fail
     refine c1.mono ?_;clear c1;rintro e z ⟨rfl,y⟩;have o:=H.out R z y;obtain ⟨A,L⟩:=Xe o;have N:Hid (Below w.heap.size w z):=Q.out.trans (o.mono (by omega))
     clear y o;go_wp2
     refine bodyPost_ret (v:=yi R) (by simp [results,Tryz.results127,go_sem,yi,A]) rfl ⟨by rw [O.out],?_⟩
     exact yU N.out _ _ _ _ _
end Go.Proofs.YtcphojjpapgblaaGreatDoor

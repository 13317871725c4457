import Derived.Test.YtpejpbbdgblbeaaGreatDoorMC1
import Derived.Test.YtpejpbbdgblbeaaGreatDoorMC0
import Derived.Deep.MidRow
import Derived.LoopN
namespace Go.Proofs.YtpejpbbdgblbeaaGreatDoor
open Go.RowKit
set_option maxHeartbeats 16000000
set_option maxRecDepth 100000
structure TR where
 k:Nat
 s:List UInt8
 n:Nat
 sz:Nat
 e:Nat
def yq (r:TR):Value:=.tuple #[.agg #[.int .i64 r.k,.string (zb r.s),.int .i64 r.n,.int .i64 0,.int .i64 0],.int .i64 r.sz,.int .i64 r.e]
def Z7 (l:List UInt8):List UInt8:=l.takeWhile fun c=>yu c.toNat
def Yd (l:List UInt8):TR:=if yp (Z7 l)=true then ⟨5,Z7 l,0,(Z7 l).length,0⟩ else if 20<(Z7 l).length then ⟨0,[],0,0,5⟩ else ⟨1,Z7 l,0,(Z7 l).length,0⟩
theorem VB (p:UInt8→Bool) (l:List UInt8):l.take (l.takeWhile p).length=l.takeWhile p:=by
 induction l with
 | nil=>rfl
 | cons x l ih =>
  by_cases h:p x=true
  ·simp [h,ih]
  ·simp [h]
theorem Uk (l:List UInt8):(Z7 l).length≤l.length:=(List.takeWhile_sublist _).length_le
theorem yI.alloc {w:World} (h:yI w) (o:Obj):yI (w.alloc o) :=
 ⟨fun j hj=>Lib.cell?_alloc_some o (h.words j hj),fun j hj=>Lib.cell?_alloc_some o (h.signs j hj),fun j hj=>Lib.cell?_alloc_some o (h.escs j hj),by obtain ⟨a,b,c⟩:=h.range;exact ⟨a,b,Lib.cell?_alloc_some o c⟩⟩
theorem yI.below {w w':World} {B:Nat} (h:yI w) (hb:Below B w w') (hB:w.heap.size≤B):yI w':=by
 have o:∀{p:Addr} {v:Value},w.cell? p=some v→w'.cell? p=some v:=fun {p v} hp=>by
  rw [hb.cell (Nat.lt_of_lt_of_le (World.block_lt_of_cell? w _ hp) hB)];exact hp
 exact ⟨fun j hj=>o (h.words j hj),fun j hj=>o (h.signs j hj),fun j hj=>o (h.escs j hj),by obtain ⟨a,b,c⟩:=h.range;exact ⟨a,b,o c⟩⟩
theorem qk (l:List UInt8) (w:World) (hl:l.length≤9223372036854775000) (ht:yI w) :
  Calls Tryz.prog 156 #[.string (zb l)] w fun e w'=>e=.returned (yq (Yd l))∧Below w.heap.size w w':=by
 have N:Hid (yI w):=ht;have z:=Uk l;obtain ⟨m,D⟩:∃m,m=(Z7 l).length:=⟨_,rfl⟩;rw [←D] at z;have o:=fun wx=>Qw wx l m z
 rw [show l.take m=Z7 l by rw [D];exact VB _ l] at o
 have A:Hid (m=(Z7 l).length):=D;clear ht
 have J:Hid (∀wx,Calls Tryz.prog 149 #[.string (zb l),.func (.func 182) #[] #[]] wx fun e w'=>e=.returned (.int .i64 m)∧wx=w'):=fun wx=>by
  rw [D];exact zeC l wx hl
 have I:Hid (∀wx,yI wx→Calls Tryz.prog 183 #[.string (zb (Z7 l))] wx fun e w'=>e=.returned (.bool (yp (Z7 l)))∧wx=w'):=fun wx h=>zeE _ wx h
 clear D;have O:=(Below.refl w.heap.size w).alloc (Nat.le_refl _);obtain ⟨x,G⟩:∃x,x=Z7 l:=⟨_,rfl⟩;rw [←G] at o I A;have H:Hid (x=Z7 l):=G;clear G
 go_enter Tryz.func156,Tryz.ntmps156
 go_wp2_with fail
 refine (J.out _).mono ?_;rintro e L ⟨rfl,rfl⟩;go_wp2_with fail
 refine (I.out _ (N.out.alloc _)).mono ?_;rintro e L ⟨rfl,rfl⟩;cases hq:yp x with
 | true =>
  have y:Hid (Yd l=⟨5,x,0,m,0⟩):=by unfold Yd;rw [←H.out,if_pos hq,←A.out];rfl
  go_wp2
  refine bodyPost_ret (v:=yq ⟨5,x,0,m,0⟩) (by simp [results,Tryz.results156,go_sem,yq]) rfl ⟨by rw [y.out],?_⟩
  exact (Below.refl w.heap.size w).alloc (Nat.le_refl _) _
 | false =>
  by_cases h20:20<m
  ·have y:Hid (Yd l=⟨0,[],0,0,5⟩):=by unfold Yd;rw [←H.out,if_neg (by rw [hq];simp),if_pos (by rw [←A.out];exact h20)];rfl
   go_wp2
   refine bodyPost_ret (v:=yq ⟨0,[],0,0,5⟩) (by simp [results,Tryz.results156,go_sem,yq]) rfl ⟨by rw [y.out],?_⟩
   exact (Below.refl w.heap.size w).alloc (Nat.le_refl _) _
  ·have y:Hid (Yd l=⟨1,x,0,m,0⟩):=by unfold Yd;rw [←H.out,if_neg (by rw [hq];simp),if_neg (by rw [←A.out];exact h20),←A.out];rfl
   go_wp2
   refine bodyPost_ret (v:=yq ⟨1,x,0,m,0⟩) (by simp [results,Tryz.results156,go_sem,yq]) rfl ⟨by rw [y.out],?_⟩
   exact (Below.refl w.heap.size w).alloc (Nat.le_refl _) _
def valA (acc:Nat):List UInt8→Nat
 | []=>acc
 | c::r=>valA (acc*10+(c.toNat-48)) r
theorem zcM:∀(r:List UInt8) (acc:Nat),acc≤valA acc r
 | [],_=>Nat.le_refl _
 | c::r,acc=>Nat.le_trans (by omega) (zcM r (acc*10+(c.toNat-48)))
theorem Qy (ds:List UInt8):∀(o:Nat),(∀c∈ds,Zw c.toNat=true)→o<18446744073709551616 →
  Lib.parseUint10 o ds=if valA o ds<18446744073709551616 then .ok (valA o ds) else .range:=by
 induction ds with
 | nil =>
  intro o _ z;rw [show valA o []=o from rfl,if_pos z]
  rfl
 | cons c r ih =>
  intro o h z;have y:=h c (List.mem_cons_self ..)
  unfold Zw at y
  rw [Bool.and_eq_true,decide_eq_true_eq,decide_eq_true_eq] at y;have A:=zcM r (o*10+(c.toNat-48));rw [show valA o (c::r)=valA (o*10+(c.toNat-48)) r from rfl]
  unfold Lib.parseUint10
  rw [if_pos y]
  by_cases h1:1844674407370955162≤o
  ·rw [if_pos h1,if_neg (by omega)]
  ·rw [if_neg h1]
   by_cases h2:18446744073709551616≤o*10+(c.toNat-48)
   ·rw [if_pos h2,if_neg (by omega)]
   ·rw [if_neg h2]
    exact ih _ (fun d hd=>h d (List.mem_cons_of_mem _ hd)) (by omega)
theorem zam {ds:List UInt8} (h:∀c∈ds,Zw c.toNat=true) (hne:ds≠[]) :
  Lib.atoiAll ds=if valA 0 ds<9223372036854775808 then .ok (valA 0 ds:Int) else .range:=by
 cases ds with
 | nil=>exact absurd rfl hne
 | cons c r =>
  have y:=h c (List.mem_cons_self ..)
  unfold Zw at y
  rw [Bool.and_eq_true,decide_eq_true_eq,decide_eq_true_eq] at y;have D:¬ (c.toNat=43∨c.toNat=45):=by omega
  have o:¬ c.toNat=45:=by omega
  have z:Lib.parseMag (c::r)=if valA 0 (c::r)<18446744073709551616 then .ok (valA 0 (c::r)) else .range:=by
   unfold Lib.parseMag;rw [if_neg (by simp)];exact Qy _ 0 h (by omega)
  generalize valA 0 (c::r)=v at z ⊢;have A:(if c.toNat=43∨c.toNat=45 then r else c::r)=c::r:=if_neg D
  unfold Lib.atoiAll
  simp only [A];rw [z]
  by_cases h3:v<18446744073709551616
  ·rw [if_pos h3]
   by_cases h4:v<9223372036854775808
   ·simp only
    rw [if_neg (by omega),if_neg (by omega),if_neg o,if_pos h4]
   ·simp only
    rw [if_pos ⟨o,by omega⟩,if_neg h4]
  ·rw [if_neg h3,if_neg (by omega)]
theorem VC {p:UInt8→Bool}:∀(l:List UInt8) (c:UInt8),c∈l.takeWhile p→p c=true
 | [],c,h=>by simp at h
 | x::l,c,h=>by
  by_cases hx:p x=true
  ·rw [List.takeWhile_cons_of_pos hx] at h
   rcases List.mem_cons.1 h with rfl | h
   ·exact hx
   ·exact VC l c h
  ·rw [List.takeWhile_cons_of_neg hx] at h
   simp at h
def digL (l:List UInt8):List UInt8:=l.takeWhile fun c=>Zw c.toNat
def XX (l:List UInt8):TR:=if valA 0 (digL l)<9223372036854775808 then ⟨2,[],valA 0 (digL l),(digL l).length,0⟩ else ⟨0,[],0,0,5⟩
theorem zcN (l:List UInt8):(digL l).length≤l.length:=(List.takeWhile_sublist _).length_le
theorem zeF (l:List UInt8):∀c∈digL l,Zw c.toNat=true:=fun c hc=>VC (p:=fun c=>Zw c.toNat) l c hc
theorem uO (l:List UInt8) (w:World) (hl:l.length≤140737488351232) (hne:digL l≠[]) (ht:yI w) :
  Calls Tryz.prog 158 #[.string (zb l)] w fun e w'=>e=.returned (yq (XX l))∧Below w.heap.size w w':=by
 have HT:Hid (yI w):=ht;have D:=zcN l;obtain ⟨m,I⟩:∃m,m=(digL l).length:=⟨_,rfl⟩;rw [←I] at D;have A:=fun wx=>Qw wx l m D
 rw [show l.take m=digL l by rw [I];exact VB _ l] at A
 have N:Hid (m=(digL l).length):=I;have W:m≤140737488351232:=by omega
 clear ht
 have HN:Hid (∀wx,Calls Tryz.prog 149 #[.string (zb l),.func (.func 157) #[] #[]] wx fun e w'=>e=.returned (.int .i64 m)∧wx=w'):=fun wx=>by
  rw [I];exact zdl l wx (by omega)
 have y:=zam (zeF l) hne;obtain ⟨x,R⟩:∃x,x=digL l:=⟨_,rfl⟩;rw [←R] at A N y;obtain ⟨v,U⟩:∃v,v=valA 0 x:=⟨_,rfl⟩;rw [←U] at y;have HX:Hid (x=digL l):=R;have Z:Hid (v=valA 0 x):=U;have H:Hid (Lib.atoiAll x=if v<9223372036854775808 then .ok (v:Int) else .range):=y
 clear R U y I
 go_enter Tryz.func158,Tryz.ntmps158
 go_wp2_with fail
 refine (HN.out _).mono ?_;rintro e w1 ⟨rfl,rfl⟩
 by_cases h63:v<9223372036854775808
 ·have c1:=fun wx=>Tryz.strconv_Atoi_ok (zb x) (by rw [Zh,←N.out];omega) v (by show Lib.atoiAll x=_;rw [H.out,if_pos h63]) wx
  have O:Hid (XX l=⟨2,[],v,m,0⟩):=by unfold XX;rw [←HX.out,←Z.out,if_pos h63,←N.out];rfl
  go_wp2_with fail
  refine (c1 _).mono ?_;clear c1;rintro e w1 ⟨rfl,L⟩
  have h:Below (w.heap.size+1) (w.alloc (Obj.cells #[Value.int IntKind.i64 0,Value.string ⟨#[]⟩,Value.int IntKind.i64 0,Value.int IntKind.i64 0,Value.int IntKind.i64 0] 66)) w1:=by
   rcases L with rfl | ⟨t,rfl⟩
   ·exact Below.refl _ _
   ·have G:=Lib.bytesWorld_below (w.alloc (Obj.cells #[Value.int IntKind.i64 0,Value.string ⟨#[]⟩,Value.int IntKind.i64 0,Value.int IntKind.i64 0,Value.int IntKind.i64 0] 66)) 5 t
    rw [World.size_alloc] at G;exact G
  clear L
  obtain ⟨z,T⟩:(∀o,w1.cell? ⟨w.heap.size,o,none⟩=(w.alloc (Obj.cells #[Value.int IntKind.i64 0,Value.string ⟨#[]⟩,Value.int IntKind.i64 0,Value.int IntKind.i64 0,Value.int IntKind.i64 0] 66)).cell? ⟨w.heap.size,o,none⟩)∧(∀o,w1.frozen? ⟨w.heap.size,o,none⟩=(w.alloc (Obj.cells #[Value.int IntKind.i64 0,Value.string ⟨#[]⟩,Value.int IntKind.i64 0,Value.int IntKind.i64 0,Value.int IntKind.i64 0] 66)).frozen? ⟨w.heap.size,o,none⟩) :=
   ⟨fun o=>h.cell (p:=⟨w.heap.size,o,none⟩) (by simp),fun o=>h.frozen (p:=⟨w.heap.size,o,none⟩) (by simp)⟩
  have Q:Hid (Below w.heap.size w w1):=((Below.refl w.heap.size w).alloc (Nat.le_refl _) _).trans (h.mono (by omega))
  clear h;go_wp2
  refine bodyPost_ret (v:=yq ⟨2,[],v,m,0⟩) (by simp [results,Tryz.results158,go_sem,yq,z]) rfl ⟨by rw [O.out],?_⟩
  exact ((((Q.out.setCell (p:=⟨w.heap.size,0,none⟩) (Nat.le_refl _) _).setCell (p:=⟨w.heap.size,1,none⟩) (Nat.le_refl _) _).setCell (p:=⟨w.heap.size,2,none⟩) (Nat.le_refl _) _).setCell (p:=⟨w.heap.size,3,none⟩) (Nat.le_refl _) _).setCell (p:=⟨w.heap.size,4,none⟩) (Nat.le_refl _) _
 ·obtain ⟨V,Y,J⟩:=HT.out.range
  have c1:=Tryz.strconv_Atoi_range (zb x) (by rw [Zh,←N.out];omega) (by show Lib.atoiAll x=_;rw [H.out,if_neg h63]) (.iface V Y) (w.alloc (Obj.cells #[Value.int IntKind.i64 0,Value.string ⟨#[]⟩,Value.int IntKind.i64 0,Value.int IntKind.i64 0,Value.int IntKind.i64 0] 66)) (Lib.cell?_alloc_some _ J) (.inr ⟨V,Y,rfl⟩)
  have O:Hid (XX l=⟨0,[],0,0,5⟩):=by unfold XX;rw [←HX.out,←Z.out,if_neg h63];rfl
  go_wp2_with fail
  refine c1.mono ?_;clear c1;rintro e w1 ⟨NN,rfl,-,-,h⟩;rw [World.size_alloc] at h
  obtain ⟨z,T⟩:(∀o,w1.cell? ⟨w.heap.size,o,none⟩=(w.alloc (Obj.cells #[Value.int IntKind.i64 0,Value.string ⟨#[]⟩,Value.int IntKind.i64 0,Value.int IntKind.i64 0,Value.int IntKind.i64 0] 66)).cell? ⟨w.heap.size,o,none⟩)∧(∀o,w1.frozen? ⟨w.heap.size,o,none⟩=(w.alloc (Obj.cells #[Value.int IntKind.i64 0,Value.string ⟨#[]⟩,Value.int IntKind.i64 0,Value.int IntKind.i64 0,Value.int IntKind.i64 0] 66)).frozen? ⟨w.heap.size,o,none⟩) :=
   ⟨fun o=>h.cell (p:=⟨w.heap.size,o,none⟩) (by simp),fun o=>h.frozen (p:=⟨w.heap.size,o,none⟩) (by simp)⟩
  have Q:Hid (Below w.heap.size w w1):=((Below.refl w.heap.size w).alloc (Nat.le_refl _) _).trans (h.mono (by omega))
  clear h J;go_wp2
  refine bodyPost_ret (v:=yq ⟨0,[],0,0,5⟩) (by simp [results,Tryz.results158,go_sem,yq,z]) rfl ⟨by rw [O.out],?_⟩
  exact ((((Q.out.setCell (p:=⟨w.heap.size,0,none⟩) (Nat.le_refl _) _).setCell (p:=⟨w.heap.size,1,none⟩) (Nat.le_refl _) _).setCell (p:=⟨w.heap.size,2,none⟩) (Nat.le_refl _) _).setCell (p:=⟨w.heap.size,3,none⟩) (Nat.le_refl _) _).setCell (p:=⟨w.heap.size,4,none⟩) (Nat.le_refl _) _
def longer (l best x:List UInt8):List UInt8:=if best.length<x.length∧Lib.hasPrefix l x=true then x else best
def bestS (l:List UInt8) (n:Nat):List UInt8:=(signsL.take n).foldl (longer l) []
def Yu (l:List UInt8):TR:=if bestS l 25=[] then ⟨0,[],0,0,6⟩ else ⟨4,bestS l 25,0,(bestS l 25).length,0⟩
theorem zbz (l:List UInt8) (n:Nat) (h:n<signsL.length):bestS l (n+1)=longer l (bestS l n) signsL[n]:=by
 unfold bestS;rw [List.take_succ_eq_append_getElem h,List.foldl_append];rfl
theorem qI (l:List UInt8) (n:Nat):(bestS l n).length≤2:=by
 have z:∀(h:List (List UInt8)) (b:List UInt8),(∀x∈h,x.length≤2)→b.length≤2→(h.foldl (longer l) b).length≤2:=by
  intro h
  induction h with
  | nil=>intro b _ A;exact A
  | cons x h ih =>
   intro b o A;refine ih _ (fun y hy=>o y (List.mem_cons_of_mem _ hy)) ?_
   unfold longer
   split
   ·exact o x (List.mem_cons_self ..)
   ·exact A
 exact z _ _ (fun x o=>by
  have:∀x∈signsL,x.length≤2:=by decide
  exact this x (List.mem_of_mem_take o)) (by simp)
def V1:List Value:=signsL.map fun x=>.string (zb x)
def signsV:Value:=.agg V1.toArray
theorem zan {w:World} (ht:yI w):w.rangeAt 3 0 V1:=fun j v hv=>by
 unfold V1 at hv
 rw [List.getElem?_map] at hv;rcases Nat.lt_or_ge j signsL.length with h | h
 ·rw [List.getElem?_eq_getElem h] at hv
  simp only [Option.map_some,Option.some.injEq] at hv;rw [Nat.zero_add,ht.signs j h,hv]
 ·rw [List.getElem?_eq_none h] at hv;cases hv
theorem zbA:(Tryz.prog.info? 216).map (·.size)=some V1.length:=by kernel_rfl
theorem ql (l:List UInt8) (w:World) (ht:yI w) :
  Calls Tryz.prog 160 #[.string (zb l)] w fun e w'=>e=.returned (yq (Yu l))∧Below w.heap.size w w':=by
 have W:Hid (yI w):=ht;clear ht
 go_enter Tryz.func160,Tryz.ntmps160
 go_wp2_with (refine wpList_load_mid rfl 216 _ rfl 3 0 rfl V1 _ (zan (W.out.alloc _)) Tryz.underlying216 rfl zbA ?_)
 have V:Hid (∀(wx:World) (i:Nat) (h:i<25),(Instr.index 216 signsV (.int .i64 (i:Int))).run Tryz.prog wx=.ok (.string (zb (signsL[i]'h))) wx):=fun wx i h=>zdo wx i h
 rw [show Value.agg V1.toArray=signsV from rfl]
 generalize signsV=A at *
 go_loop [5,9] (fun vb v=>∃i:Nat,i≤25∧v=.int .i64 i∧vb=.string (zb (bestS l i))) (fun _ v=>25-(intOf v).toNat)
 case atStart=>exact ⟨0,Nat.zero_le _,rfl,rfl⟩
 case round =>
  obtain ⟨i,Y,rfl,rfl⟩:=hrel;have Q:=qI l i;obtain ⟨b,J⟩:∃b,b=bestS l i:=⟨_,rfl⟩;rw [←J] at Q ⊢;have L:Hid (b=bestS l i):=J;clear J
  by_cases hlt:i<25
  ·have D:=fun wx=>V.out wx i hlt
   obtain ⟨x,G⟩:∃x,x=signsL[i]'hlt:=⟨_,rfl⟩;rw [←G] at D
   have R:x.length≤2:=by
    have:∀x∈signsL,x.length≤2:=by decide
    rw [G];exact this _ (List.getElem_mem _)
   have O:Hid (bestS l (i+1)=longer l b x):=show bestS l (i+1)=longer l b x by rw [zbz l i hlt,L.out,G]
   have T:(zb x).size=x.length:=rfl;have N:(zb b).size=b.length:=rfl;clear G
   by_cases hlen:b.length<x.length
   ·have H:=fun wx=>Tryz.strings_HasPrefix (zb l) (zb x) wx
    cases hp:Lib.hasPrefix l x with
    | true =>
     have z:Lib.hasPrefix (zb l).data.toList (zb x).data.toList=true:=hp;rw [z] at H;have o:Hid (bestS l (i+1)=x):=show bestS l (i+1)=x by rw [O.out];unfold longer;rw [if_pos ⟨hlen,hp⟩]
     clear z;go_wp2_with (go_at_call 140;refine (H _).mono ?_;rintro e U ⟨rfl,rfl⟩)
     refine ⟨⟨i+1,by omega,by go_num,by rw [o.out]⟩,by simp [intOf];omega⟩
    | false =>
     have z:Lib.hasPrefix (zb l).data.toList (zb x).data.toList=false:=hp;rw [z] at H;have o:Hid (bestS l (i+1)=b):=show bestS l (i+1)=b by rw [O.out];unfold longer;rw [if_neg (fun h=>by rw [hp] at h;exact absurd h.2 (by decide))]
     clear z;go_wp2_with (go_at_call 140;refine (H _).mono ?_;rintro e U ⟨rfl,rfl⟩)
     refine ⟨⟨i+1,by omega,by go_num,by rw [o.out]⟩,by simp [intOf];omega⟩
   ·have o:Hid (bestS l (i+1)=b):=show bestS l (i+1)=b by rw [O.out];unfold longer;rw [if_neg (fun h=>hlen h.1)]
    go_wp2
    refine ⟨⟨i+1,by omega,by go_num,by rw [o.out]⟩,by simp [intOf];omega⟩
  ·obtain rfl:i=25:=by omega
   have N:(zb b).size=b.length:=rfl;cases b with
   | nil =>
    have I:Hid (Yu l=⟨0,[],0,0,6⟩):=by unfold Yu;rw [←L.out,if_pos rfl];rfl
    go_wp2
    refine bodyPost_ret (v:=yq ⟨0,[],0,0,6⟩) (by simp [results,Tryz.results160,go_sem,yq]) rfl ⟨by rw [I.out],?_⟩
    exact (Below.refl w.heap.size w).alloc (Nat.le_refl _) _
   | cons y ys =>
    have I:Hid (Yu l=⟨4,y::ys,0,(y::ys).length,0⟩):=by unfold Yu;rw [←L.out,if_neg (by simp)];rfl
    go_wp2
    refine bodyPost_ret (v:=yq ⟨4,y::ys,0,(y::ys).length,0⟩) (by simp [results,Tryz.results160,go_sem,yq]) rfl ⟨by rw [I.out],?_⟩
    exact (Below.refl w.heap.size w).alloc (Nat.le_refl _) _
def v7:List UInt8→Nat × Nat
 | []=>(0,0)
 | x::r=>if x.toNat<32∨126<x.toNat then (0,0) else if x.toNat≠92 then (x.toNat,1) else
  match r with
  | []=>(0,0)
  | y::_=>if y.toNat=92 then (92,2) else if y.toNat=34 then (34,2) else if y.toNat=110 then (10,2) else (0,0)
theorem Qz (w:World) (l:List UInt8) (i:Nat) (h:i<l.length):(Instr.index 9 (.string (zb l)) (.int .i64 (i:Int))).run Tryz.prog w=.ok (.int .u8 ((l[i]).toNat:Int)) w:=by
 rw [run_index_string (P:=Tryz.prog) (w:=w) 9 (zb l) .i64 _ Tryz.underlying9,dif_pos ⟨by omega,by rw [Zh];omega⟩]
 simp only [Int.toNat_natCast]
 rfl
theorem qJ {a:Nat × Nat} {c k:Nat} (h:a=(c,k)):(Ending.returned (.tuple #[.int .u8 (c:Int),.int .i64 (k:Int)]):Ending)=.returned (.tuple #[.int .u8 (a.1:Int),.int .i64 (a.2:Int)]):=by rw [h]
theorem uY {x:UInt8} {r:List UInt8} (h:x.toNat<32∨126<x.toNat):v7 (x::r)=(0,0):=by
 show (if _ then _ else _)=_;rw [if_pos h]
theorem uZ {x:UInt8} {r:List UInt8} (h:¬ (x.toNat<32∨126<x.toNat)) (h2:x.toNat≠92):v7 (x::r)=(x.toNat,1):=by
 show (if _ then _ else _)=_;rw [if_neg h,if_pos h2]
theorem QA {x:UInt8} (h:¬ (x.toNat<32∨126<x.toNat)) (h2:x.toNat=92):v7 [x]=(0,0):=by
 show (if _ then _ else _)=_;rw [if_neg h,if_neg (by omega)]
def tbE (m:Nat):Nat × Nat:=if m=92 then (92,2) else if m=34 then (34,2) else if m=110 then (10,2) else (0,0)
theorem QB {x y:UInt8} {t:List UInt8} (h:¬ (x.toNat<32∨126<x.toNat)) (h2:x.toNat=92):v7 (x::y::t)=tbE y.toNat:=by
 show (if _ then _ else _)=_;rw [if_neg h,if_neg (by omega)];rfl
def uP:List Nat:=[92,34,110]
def qm:List Nat:=[92,34,10]
theorem zhG {m i:Nat} (hi:i<3) (h:∀j (hj:j<3),j<i→(uP[j]'hj)≠m) (he:(uP[i]'hi)=m):tbE m=((qm[i]'hi),2):=by
 have o:i=0∨i=1∨i=2:=by omega
 rcases o with rfl | rfl | rfl
 ·rw [←he];rfl
 ·rw [←he];rfl
 ·rw [←he];rfl
theorem zge {m:Nat} (h:∀j (hj:j<3),(uP[j]'hj)≠m):tbE m=(0,0):=by
 have z:92≠m:=h 0 (by decide)
 have y:34≠m:=h 1 (by decide)
 have o:110≠m:=h 2 (by decide)
 unfold tbE
 rw [if_neg (by omega),if_neg (by omega),if_neg (by omega)]
theorem zao (w:World) (i:Nat) (h:i<3):(Instr.index 229 (.agg #[.int .u8 92,.int .u8 92,.int .u8 34,.int .u8 34,.int .u8 10,.int .u8 110]) (.int .i64 (i:Int))).run Tryz.prog w=.ok (.agg #[.int .u8 ((qm[i]'h:Nat):Int),.int .u8 ((uP[i]'h:Nat):Int)]) w:=by
 have o:i=0∨i=1∨i=2:=by omega
 rcases o with rfl | rfl | rfl
 all_goals rfl
theorem QC (x:UInt8) (r:List UInt8) (w:World) (hl:r.length≤9223372036854775000) (ht:yI w) :
  Calls Tryz.prog 185 #[.string (zb (x::r))] w fun e w'=>e=.returned (.tuple #[.int .u8 (v7 (x::r)).1,.int .i64 (v7 (x::r)).2])∧Below w.heap.size w w':=by
 have R:=fun wx=>Qz wx (x::r) 0 (by simp)
 rw [show ((0:Nat):Int)=0 from rfl,show (x::r)[0]=x from rfl] at R
 have z:(zb (x::r)).size=r.length+1:=rfl;obtain ⟨n,o⟩:∃n,n=x.toNat:=⟨_,rfl⟩;have V:n<256:=by rw [o];exact UInt8.toNat_lt x
 rw [←o] at R;obtain ⟨S,J⟩:∃S,S=zb (x::r):=⟨_,rfl⟩;rw [←J] at R z ⊢;have e0:=ht.escs 0 (by decide)
 have e1:=ht.escs 1 (by decide)
 have e2:=ht.escs 2 (by decide)
 have e3:=ht.escs 3 (by decide)
 have e4:=ht.escs 4 (by decide)
 have e5:=ht.escs 5 (by decide)
 simp only [List.getElem_cons_zero,List.getElem_cons_succ] at e0 e1 e2 e3 e4 e5;clear ht
 by_cases hbad:n<32∨126<n
 ·have A:Hid (v7 (x::r)=(0,0)):=uY (by rw [←o];exact hbad)
  clear J o;rcases hbad with I | I
  ·go_enter Tryz.func185,Tryz.ntmps185
   go_wp2
   go_ret2
   exact ⟨qJ A.out,Below.refl _ _⟩
  ·go_enter Tryz.func185,Tryz.ntmps185
   go_wp2
   go_ret2
   exact ⟨qJ A.out,Below.refl _ _⟩
 ·by_cases h92:n=92
  ·cases r with
   | nil =>
    have A:Hid (v7 [x]=(0,0)):=QA (by rw [←o];exact hbad) (by rw [←o];exact h92)
    have Z:S.size=1:=z;clear J o hbad z;subst h92
    go_enter Tryz.func185,Tryz.ntmps185
    go_wp2
    go_ret2
    exact ⟨qJ A.out,Below.refl _ _⟩
   | cons y t =>
    have h1:=fun wx=>Qz wx (x::y::t) 1 (by simp)
    rw [show ((1:Nat):Int)=1 from rfl,show (x::y::t)[1]=y from rfl] at h1
    obtain ⟨m,Q⟩:∃m,m=y.toNat:=⟨_,rfl⟩;have W:m<256:=by rw [Q];exact UInt8.toNat_lt y
    rw [←Q,←J] at h1;have N:Hid (v7 (x::y::t)=tbE m):=show _=_ by rw [Q];exact QB (by rw [←o];exact hbad) (by rw [←o];exact h92)
    have aa:S.size=t.length+2:=z;have Y:((t.length:Int)+2==1)=false:=by rw [beq_eq_false_iff_ne];omega
    have ad:t.length+1≤9223372036854775000:=by simpa using hl
    clear J o hbad z Q hl;subst h92
    go_enter Tryz.func185,Tryz.ntmps185
    go_wp2
    clear e0 e1 e2 e3 e4 e5
    go_loopw [26] (fun v wr=>∃i:Nat,i≤3∧v=.int .i64 i∧(∀j (hj:j<3),j<i→(uP[j]'hj)≠m)∧Below w.heap.size w wr) (fun v _=>3-(intOf v).toNat)
    case atStart=>exact ⟨0,Nat.zero_le _,rfl,fun j _ h=>by omega,Below.refl _ _⟩
    case round =>
     obtain ⟨i,hi,rfl,D,H⟩:=hrel;have T:Hid (∀j (hj:j<3),j<i→(uP[j]'hj)≠m):=D;have U:Hid (Below w.heap.size w wr):=H;have G:=H.size;clear D H
     by_cases hlt:i<3
     ·have L:=fun wx=>zao wx i hlt
      obtain ⟨a,O⟩:∃a,a=qm[i]'hlt:=⟨_,rfl⟩;obtain ⟨b,I⟩:∃b,b=uP[i]'hlt:=⟨_,rfl⟩;rw [←O,←I] at L
      by_cases he:b=m
      ·have A:Hid (v7 (x::y::t)=(a,2)):=show _=_ by rw [N.out,O];exact zhG hlt T.out (by rw [←I];exact he)
       subst he;clear O I;go_wp2
       go_quiet (fail)
       go_wp2
       go_ret2
       refine ⟨qJ A.out,?_⟩;exact (U.out.alloc G _).trans ⟨rfl,rfl,rfl,Nat.le_refl _,fun _ _=>rfl⟩
      ·have ae:((b:Int)==(m:Int))=false:=by rw [beq_eq_false_iff_ne];omega
       have HE:Hid ((uP[i]'hlt)≠m):=show (uP[i]'hlt)≠m by rw [←I];exact he
       clear O I he;go_wp2
       go_quiet (fail)
       go_wp2
       refine ⟨⟨i+1,by omega,by go_num,fun j hj hji=>?_,(U.out.alloc G _).trans ⟨rfl,rfl,rfl,Nat.le_refl _,fun _ _=>rfl⟩⟩,by simp [intOf];omega⟩
       by_cases h:j<i
       ·exact T.out j hj h
       ·obtain rfl:j=i:=by omega
        exact HE.out
     ·obtain rfl:i=3:=by omega
      have A:Hid (v7 (x::y::t)=(0,0)):=show _=_ by rw [N.out];exact zge (fun j hj=>T.out j hj hj)
      go_wp2
      go_ret2
      exact ⟨qJ A.out,U.out⟩
  ·have A:Hid (v7 (x::r)=(n,1)):=show v7 (x::r)=(n,1) by rw [o];exact uZ (by rw [←o];exact hbad) (by rw [←o];exact h92)
   have af:32≤n:=by omega
   have ab:n≤126:=by omega
   clear J o hbad
   go_enter Tryz.func185,Tryz.ntmps185
   go_wp2
   go_ret2
   exact ⟨qJ A.out,Below.refl _ _⟩
def Zq:Nat→List UInt8→Nat→List UInt8→TR
 | 0,_,_,_=>⟨0,[],0,0,6⟩
 | _+1,_,_,[]=>⟨0,[],0,0,6⟩
 | f+1,meant,at0,x::r=>if x.toNat=34 then ⟨3,meant,0,at0+1,0⟩ else if (v7 (x::r)).2=0 then ⟨0,[],0,0,6⟩ else if meant.length=255 then ⟨0,[],0,0,5⟩
  else Zq f (meant++[(v7 (x::r)).1.toUInt8]) (at0+(v7 (x::r)).2) ((x::r).drop (v7 (x::r)).2)
def yT (l:List UInt8):TR:=Zq l.length [] 1 (l.drop 1)
theorem zeG (l:List UInt8):(v7 l).2≤l.length∧(v7 l).1<256:=by
 cases l with
 | nil=>exact ⟨Nat.le_refl _,by decide⟩
 | cons x r =>
  by_cases h:x.toNat<32∨126<x.toNat
  ·rw [uY h];simp
  ·by_cases h2:x.toNat=92
   ·cases r with
    | nil=>rw [QA h h2];simp
    | cons y t =>
     rw [QB h h2]
     unfold tbE
     split
     ·simp
     ·split
      ·simp
      ·split <;> simp
   ·rw [uZ h h2]
    have:=UInt8.toNat_lt x
    simp;omega
abbrev xH:Obj:=Obj.cells #[Value.int IntKind.i64 0,Value.string ⟨#[]⟩,Value.int IntKind.i64 0,Value.int IntKind.i64 0,Value.int IntKind.i64 0] 66
theorem Xe {w w1:World} (hb:Below (w.heap.size+1) (w.alloc xH) w1) :
  (∀o,w1.cell? ⟨w.heap.size,o,none⟩=(w.alloc xH).cell? ⟨w.heap.size,o,none⟩)∧(∀o,w1.frozen? ⟨w.heap.size,o,none⟩=(w.alloc xH).frozen? ⟨w.heap.size,o,none⟩) :=
 ⟨fun o=>hb.cell (p:=⟨w.heap.size,o,none⟩) (by simp),fun o=>hb.frozen (p:=⟨w.heap.size,o,none⟩) (by simp)⟩
theorem yU {w w1:World} (h:Below w.heap.size w w1) (a b c d e:Value) :
  Below w.heap.size w (((((w1.setCell ⟨w.heap.size,0,none⟩ a).setCell ⟨w.heap.size,1,none⟩ b).setCell ⟨w.heap.size,2,none⟩ c).setCell ⟨w.heap.size,3,none⟩ d).setCell ⟨w.heap.size,4,none⟩ e) :=
 ((((h.setCell (p:=⟨w.heap.size,0,none⟩) (Nat.le_refl _) _).setCell (p:=⟨w.heap.size,1,none⟩) (Nat.le_refl _) _).setCell (p:=⟨w.heap.size,2,none⟩) (Nat.le_refl _) _).setCell (p:=⟨w.heap.size,3,none⟩) (Nat.le_refl _) _).setCell (p:=⟨w.heap.size,4,none⟩) (Nat.le_refl _) _
theorem V2 {w w':World} {B C e n:Nat} {v:Value} {xs:List Value} (h:w.ownsRow B e 1 v n xs) (hb:Below C w w') (hC:w.heap.size≤C):w'.ownsRow B e 1 v n xs :=
 h.kept (row:=none) ⟨hb.os,hb.tape,hb.output,hb.size,fun k hk _=>hb.block k (by omega)⟩ (by cases h':v.ownBlock <;> simp)
theorem qn (l:List UInt8) (w:World) (hl:l.length≤140737488351232) (hl1:1≤l.length) (ht:yI w) :
  Calls Tryz.prog 159 #[.string (zb l)] w fun e w'=>e=.returned (yq (yT l))∧Below w.heap.size w w':=by
 have HT:Hid (yI w):=ht;have aB:(zb l).size=l.length:=rfl;have hA:Below w.heap.size w (w.alloc xH):=(Below.refl w.heap.size w).alloc (Nat.le_refl _) _;have HA:Hid (Below w.heap.size w (w.alloc xH)):=hA;clear ht hA
 go_enter Tryz.func159,Tryz.ntmps159
 go_wp2
 go_loopw [5,6] (fun vm va wr=>∃(f at0:Nat) (meant:List UInt8),va=.int .i64 at0∧at0≤l.length∧l.length≤at0+f∧meant.length≤255∧yT l=Zq f meant at0 (l.drop at0) ∧
   wr.ownsRow (w.heap.size+1) 5 1 vm meant.length (Lib.byteCells meant)∧Below (w.heap.size+1) (w.alloc xH) wr) (fun _ a _=>l.length-(intOf a).toNat)
 case atStart=>exact ⟨l.length,1,[],rfl,hl1,by omega,by simp,rfl,World.ownsRow_nil _ _ _ _,Below.refl _ _⟩
 case round =>
  obtain ⟨f,at0,meant,rfl,aD,aC,ao,aj,R,H⟩:=hrel;have ae:Hid (yT l=Zq f meant at0 (l.drop at0)):=aj;have ag:Hid (Below (w.heap.size+1) (w.alloc xH) wr):=H;have HB:Hid (Below w.heap.size w wr):=HA.out.trans (H.mono (by omega))
  have U:=H.size;rw [World.size_alloc] at U;obtain ⟨z,ab⟩:=Xe H;have HO:Hid (wr.ownsRow (w.heap.size+1) 5 1 u5 meant.length (Lib.byteCells meant)):=R;clear aj H R
  by_cases hlt:at0<l.length
  ·obtain ⟨x,r,A⟩:∃x r,l.drop at0=x::r:=⟨l[at0],l.drop (at0+1),List.drop_eq_getElem_cons hlt⟩
   have af:l[at0]=x:=by
    have h:=List.drop_eq_getElem_cons hlt;rw [A] at h;exact (List.cons.inj h).1.symm
   have T:=fun wx=>Qz wx l at0 hlt
   rw [af] at T;obtain ⟨n,hn⟩:∃n,n=x.toNat:=⟨_,rfl⟩;rw [←hn] at T;have aq:n<256:=by rw [hn];exact UInt8.toNat_lt x
   obtain ⟨f',rfl⟩:∃f',f=f'+1:=⟨f-1,by omega⟩
   have ad:Hid (yT l=if n=34 then ⟨3,meant,0,at0+1,0⟩ else if (v7 (x::r)).2=0 then ⟨0,[],0,0,6⟩ else if meant.length=255 then ⟨0,[],0,0,5⟩ else Zq f' (meant++[(v7 (x::r)).1.toUInt8]) (at0+(v7 (x::r)).2) ((x::r).drop (v7 (x::r)).2)):=show _=_ by
    rw [ae.out,A,hn];rfl
   have au:=fun wx=>Xd wx l at0 (by omega)
   rw [A] at au;have aa:(x::r).length=l.length-at0:=by rw [←A,List.length_drop]
   have av:Hid (l.drop at0=x::r):=A;clear af hn A
   by_cases h34:n=34
   ·have Q:Hid (yT l=⟨3,meant,0,at0+1,0⟩):=show _=_ by rw [ad.out,if_pos h34]
    subst h34;obtain ⟨o,G,rfl,L,-,-,-⟩:=Qv HO.out;have aA:=zak wr o meant G L;clear L;go_wp2
    refine bodyPost_ret (v:=yq ⟨3,meant,0,at0+1,0⟩) (by simp [results,Tryz.results159,go_sem,yq,z]) rfl ⟨by rw [Q.out],?_⟩
    exact yU HB.out _ _ _ _ _
   ·have aw:((n:Int)==34)=false:=by rw [beq_eq_false_iff_ne];omega
    have J:=zeG (x::r);have cb:=QC x r wr (by simp at aa;omega) (HT.out.below HB.out (Nat.le_refl _))
    obtain ⟨c,sz,V⟩:∃c sz,v7 (x::r)=(c,sz):=⟨_,_,rfl⟩;rw [V] at cb J;simp only at J
    have W:Hid (yT l=if sz=0 then ⟨0,[],0,0,6⟩ else if meant.length=255 then ⟨0,[],0,0,5⟩ else Zq f' (meant++[c.toUInt8]) (at0+sz) ((x::r).drop sz)):=show _=_ by
     rw [ad.out,if_neg h34,V]
    clear V h34;go_wp2_with fail
    refine cb.mono ?_;clear cb z ab;rintro e w2 ⟨rfl,N⟩;have az:=N.size;have O:Below (w.heap.size+1) (w.alloc xH) w2:=ag.out.trans (N.mono U);obtain ⟨z,ab⟩:=Xe O;have am:Hid (Below (w.heap.size+1) (w.alloc xH) w2):=O;have ak:Hid (Below w.heap.size w w2):=HA.out.trans (O.mono (by omega))
    have Y:Hid (w2.ownsRow (w.heap.size+1) 5 1 u5 meant.length (Lib.byteCells meant)):=V2 HO.out N (Nat.le_refl _);clear N O HO ag
    by_cases hs0:sz=0
    ·have Q:Hid (yT l=⟨0,[],0,0,6⟩):=show _=_ by rw [W.out,if_pos hs0]
     subst hs0;go_wp2
     refine bodyPost_ret (v:=yq ⟨0,[],0,0,6⟩) (by simp [results,Tryz.results159,go_sem,yq,z]) rfl ⟨by rw [Q.out],?_⟩
     exact yU ak.out _ _ _ _ _
    ·have ax:((sz:Int)==0)=false:=by rw [beq_eq_false_iff_ne];omega
     obtain ⟨o,G,rfl,-,-,-,-⟩:=Qv Y.out;obtain ⟨ml,y⟩:∃ml,ml=meant.length:=⟨_,rfl⟩;have ah:Hid (ml=meant.length):=y;rw [←y]
     by_cases h255:ml=255
     ·have Q:Hid (yT l=⟨0,[],0,0,5⟩):=show _=_ by rw [W.out,if_neg hs0,if_pos (by rw [←y];exact h255)]
      clear y;subst h255;go_wp2
      refine bodyPost_ret (v:=yq ⟨0,[],0,0,5⟩) (by simp [results,Tryz.results159,go_sem,yq,z]) rfl ⟨by rw [Q.out],?_⟩
      exact yU ak.out _ _ _ _ _
     ·have ar:((ml:Int)==255)=false:=by rw [beq_eq_false_iff_ne];omega
      have Q:Hid (yT l=Zq f' (meant++[c.toUInt8]) (at0+sz) (l.drop (at0+sz))):=show _=_ by
       rw [W.out,if_neg hs0,if_neg (by rw [←y];exact h255),←av.out,List.drop_drop]
      have ai:Hid (w2.ownsRow (w.heap.size+1) 5 1 (.slice o ml G) meant.length (Lib.byteCells meant)):=by rw [y];exact Y.out
      have Z:=J.2;have al:=J.1;rw [aa] at al;have ay:meant.length≤255:=ao;clear y Y J
      go_wp2_with (at_builtin;refine Y7 rfl _ _ rfl (w.heap.size+1) _ meant rfl (ai.out.alloc _) _ [c.toUInt8] rfl (XT Z (by simp)) (by simp;omega) (by simp;omega) ?_)
      intro v3 w3 D I;have an:Hid (Below (w.heap.size+1) (w.alloc xH) w3):=(am.out.alloc (by omega) _).grown I (by simp;omega) (fun q hq=>(ai.out.lt q hq).1)
      have ap:Hid (w3.ownsRow (w.heap.size+1) 5 1 v3 (meant++[c.toUInt8]).length (Lib.byteCells (meant++[c.toUInt8]))):=by
       rw [show (meant++[c.toUInt8]).length=meant.length+1 by simp];exact D
      clear I D;go_wp2
      refine ⟨⟨f',at0+sz,meant++[c.toUInt8],by go_num,by omega,by omega,?_,Q.out,ap.out,an.out⟩,by simp [intOf];omega⟩
      rw [List.length_append,List.length_singleton,←ah.out]
      have:=ah.out
      omega
  ·obtain rfl:at0=l.length:=by omega
   have Q:Hid (yT l=⟨0,[],0,0,6⟩):=show _=_ by
    rw [ae.out,List.drop_length];cases f <;> rfl
   go_wp2
   refine bodyPost_ret (v:=yq ⟨0,[],0,0,6⟩) (by simp [results,Tryz.results159,go_sem,yq,z]) rfl ⟨by rw [Q.out],?_⟩
   exact yU HB.out _ _ _ _ _
def Zc (l:List UInt8):TR :=
 match l with
 | []=>⟨0,[],0,0,0⟩
 | x::_=>if Zv x.toNat=true then Yd l else if Zw x.toNat=true then XX l else if x.toNat=34 then yT l else Yu l
theorem zgf {x:UInt8} {r:List UInt8} (h:Zw x.toNat=true):digL (x::r)≠[]:=by
 unfold digL;simp [h]
theorem qK (l:List UInt8) (w:World) (hl:l.length≤140737488351232) (ht:yI w) :
  Calls Tryz.prog 129 #[.string (zb l)] w fun e w'=>e=.returned (yq (Zc l))∧Below w.heap.size w w':=by
 have V:Below w.heap.size w (w.alloc xH):=(Below.refl w.heap.size w).alloc (Nat.le_refl _) _;have T:Hid (Below w.heap.size w (w.alloc xH)):=V;have U:Hid (yI (w.alloc xH)):=ht.alloc _;clear ht V;cases l with
 | nil =>
  go_enter Tryz.func129,Tryz.ntmps129
  go_wp2
  refine bodyPost_ret (v:=yq ⟨0,[],0,0,0⟩) (by simp [results,Tryz.results129,go_sem,yq]) rfl ⟨rfl,?_⟩
  exact T.out
 | cons x r =>
  have J:=fun wx=>Qz wx (x::r) 0 (by simp)
  rw [show ((0:Nat):Int)=0 from rfl,show (x::r)[0]=x from rfl] at J
  obtain ⟨n,Q⟩:∃n,n=x.toNat:=⟨_,rfl⟩;rw [←Q] at J;have G:n<256:=by rw [Q];exact UInt8.toNat_lt x
  have I:Hid (Zc (x::r)=if Zv n=true then Yd (x::r) else if Zw n=true then XX (x::r) else if n=34 then yT (x::r) else Yu (x::r)):=show _=_ by rw [Q];rfl
  have HD:Hid (Zw n=true→digL (x::r)≠[]):=fun h=>zgf (by rw [←Q];exact h)
  have aa:¬ (x::r)=[]:=by simp
  clear Q
  go_enter Tryz.func129,Tryz.ntmps129
  have ab:(x::r).length≤140737488351232:=hl;have H:Hid (∀(R:TR) (z:World),Below (w.alloc xH).heap.size (w.alloc xH) z→Below (w.heap.size+1) (w.alloc xH) z):=fun R z h=>by rw [World.size_alloc] at h;exact h
  have Z:=xo n G (w.alloc xH);go_wp2_with fail
  refine Z.mono ?_;clear Z;rintro e z ⟨rfl,rfl⟩;cases h1:Zv n with
  | true =>
   obtain ⟨R,A⟩:∃R,R=Yd (x::r):=⟨_,rfl⟩;have c1:=qk (x::r) (w.alloc xH) (by omega) U.out
   rw [←A] at c1;have L:Hid (Zc (x::r)=R):=show _=_ by rw [I.out,if_pos h1,A]
   unfold yq at c1
   clear A;go_wp2_with fail
   refine c1.mono ?_;clear c1;rintro e z ⟨rfl,y⟩;have o:=H.out R z y;obtain ⟨D,O⟩:=Xe o;have N:Hid (Below w.heap.size w z):=T.out.trans (o.mono (by omega))
   clear y o;go_wp2
   refine bodyPost_ret (v:=yq R) (by simp [results,Tryz.results129,go_sem,yq,D]) rfl ⟨by rw [L.out],?_⟩
   exact yU N.out _ _ _ _ _
  | false =>
   have Y:=XU n G (w.alloc xH);go_wp2_with fail
   refine Y.mono ?_;clear Y;rintro e z ⟨rfl,rfl⟩;cases h2:Zw n with
   | true =>
    obtain ⟨R,A⟩:∃R,R=XX (x::r):=⟨_,rfl⟩;have c1:=uO (x::r) (w.alloc xH) (by omega) (HD.out h2) U.out
    rw [←A] at c1;have L:Hid (Zc (x::r)=R):=show _=_ by rw [I.out,if_neg (by rw [h1];simp),if_pos h2,A]
    unfold yq at c1
    clear A;go_wp2_with fail
    refine c1.mono ?_;clear c1;rintro e z ⟨rfl,y⟩;have o:=H.out R z y;obtain ⟨D,O⟩:=Xe o;have N:Hid (Below w.heap.size w z):=T.out.trans (o.mono (by omega))
    clear y o;go_wp2
    refine bodyPost_ret (v:=yq R) (by simp [results,Tryz.results129,go_sem,yq,D]) rfl ⟨by rw [L.out],?_⟩
    exact yU N.out _ _ _ _ _
   | false =>
    by_cases h34:n=34
    ·obtain ⟨R,A⟩:∃R,R=yT (x::r):=⟨_,rfl⟩
     have c1:=qn (x::r) (w.alloc xH) (by omega) (by simp) U.out
     rw [←A] at c1;have L:Hid (Zc (x::r)=R):=show _=_ by rw [I.out,if_neg (by rw [h1];simp),if_neg (by rw [h2];simp),if_pos h34,A]
     subst h34
     unfold yq at c1
     clear A;go_wp2_with fail
     refine c1.mono ?_;clear c1;rintro e z ⟨rfl,y⟩;have o:=H.out R z y;obtain ⟨D,O⟩:=Xe o;have N:Hid (Below w.heap.size w z):=T.out.trans (o.mono (by omega))
     clear y o;go_wp2
     refine bodyPost_ret (v:=yq R) (by simp [results,Tryz.results129,go_sem,yq,D]) rfl ⟨by rw [L.out],?_⟩
     exact yU N.out _ _ _ _ _
    ·obtain ⟨R,A⟩:∃R,R=Yu (x::r):=⟨_,rfl⟩
     have W:((n:Int)==34)=false:=by rw [beq_eq_false_iff_ne];omega
     have c1:=ql (x::r) (w.alloc xH) U.out;rw [←A] at c1;have L:Hid (Zc (x::r)=R):=show _=_ by rw [I.out,if_neg (by rw [h1];simp),if_neg (by rw [h2];simp),if_neg h34,A]
     unfold yq at c1
     clear A;go_wp2_with fail
     refine c1.mono ?_;clear c1;rintro e z ⟨rfl,y⟩;have o:=H.out R z y;obtain ⟨D,O⟩:=Xe o;have N:Hid (Below w.heap.size w z):=T.out.trans (o.mono (by omega))
     clear y o;go_wp2
     refine bodyPost_ret (v:=yq R) (by simp [results,Tryz.results129,go_sem,yq,D]) rfl ⟨by rw [L.out],?_⟩
     exact yU N.out _ _ _ _ _
end Go.Proofs.YtpejpbbdgblbeaaGreatDoor

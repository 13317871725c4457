import Derived.Test.YtmbofhpmockmbaaGreatDoorXGap
import Derived.Test.YtmbofhpmockmbaaGreatDoorWAll
import Derived.Deep.MidRow
import Derived.LoopN
namespace Go.Proofs.YtmbofhpmockmbaaGreatDoor
open Go.RowKit
set_option maxHeartbeats 16000000
set_option maxRecDepth 100000
structure TR where
 k:Nat
 s:List UInt8
 n:Nat
 sz:Nat
 e:Nat
def Ze (r:TR):Value:=.tuple #[.agg #[.int .i64 r.k,.string (za r.s),.int .i64 r.n,.int .i64 0,.int .i64 0],.int .i64 r.sz,.int .i64 r.e]
def Z8 (l:List UInt8):List UInt8:=l.takeWhile fun c=>xr c.toNat
def yy (l:List UInt8):TR:=if yp (Z8 l)=true then ⟨5,Z8 l,0,(Z8 l).length,0⟩ else if 20<(Z8 l).length then ⟨0,[],0,0,5⟩ else ⟨1,Z8 l,0,(Z8 l).length,0⟩
theorem vy (p:UInt8→Bool) (l:List UInt8):l.take (l.takeWhile p).length=l.takeWhile p:=by
 induction l with
 | nil=>rfl
 | cons x l ih =>
  by_cases h:p x=true
  ·simp [h,ih]
  ·simp [h]
theorem xx (l:List UInt8):(Z8 l).length≤l.length:=(List.takeWhile_sublist _).length_le
theorem ZB.alloc {w:World} (h:ZB w) (o:Obj):ZB (w.alloc o) :=
 ⟨fun j hj=>Lib.cell?_alloc_some o (h.words j hj),fun j hj=>Lib.cell?_alloc_some o (h.signs j hj),fun j hj=>Lib.cell?_alloc_some o (h.escs j hj),by obtain ⟨a,b,c⟩:=h.range;exact ⟨a,b,Lib.cell?_alloc_some o c⟩⟩
theorem ZB.below {w w':World} {B:Nat} (h:ZB w) (hb:Below B w w') (hB:w.heap.size≤B):ZB w':=by
 have o:∀{p:Addr} {v:Value},w.cell? p=some v→w'.cell? p=some v:=fun {p v} hp=>by
  rw [hb.cell (Nat.lt_of_lt_of_le (World.block_lt_of_cell? w _ hp) hB)];exact hp
 exact ⟨fun j hj=>o (h.words j hj),fun j hj=>o (h.signs j hj),fun j hj=>o (h.escs j hj),by obtain ⟨a,b,c⟩:=h.range;exact ⟨a,b,o c⟩⟩
theorem x7 (l:List UInt8) (w:World) (hl:l.length≤9223372036854775000) (ht:ZB w) :
  Calls Tryz.prog 160 #[.string (za l)] w fun e w'=>e=.returned (Ze (yy l))∧Below w.heap.size w w':=by
 have K:Hid (ZB w):=ht;have D:=xx l;obtain ⟨m,A⟩:∃m,m=(Z8 l).length:=⟨_,rfl⟩;rw [←A] at D;have o:=fun wx=>Vd wx l m D
 rw [show l.take m=Z8 l by rw [A];exact vy _ l] at o
 have z:Hid (m=(Z8 l).length):=A;clear ht
 have I:Hid (∀wx,Calls Tryz.prog 152 #[.string (za l),.func (.func 173) #[] #[]] wx fun e w'=>e=.returned (.int .i64 m)∧wx=w'):=fun wx=>by
  rw [A];exact Ud l wx hl
 have H:Hid (∀wx,ZB wx→Calls Tryz.prog 174 #[.string (za (Z8 l))] wx fun e w'=>e=.returned (.bool (yp (Z8 l)))∧wx=w'):=fun wx h=>Uf _ wx h
 clear A;have L:=(Below.refl w.heap.size w).alloc (Nat.le_refl _);obtain ⟨x,E⟩:∃x,x=Z8 l:=⟨_,rfl⟩;rw [←E] at o H z;have G:Hid (x=Z8 l):=E;clear E
 go_enter Tryz.func160,Tryz.ntmps160
 go_wp2_with fail
 refine (I.out _).mono ?_;rintro e J ⟨rfl,rfl⟩;go_wp2_with fail
 refine (H.out _ (K.out.alloc _)).mono ?_;rintro e J ⟨rfl,rfl⟩;cases hq:yp x with
 | true =>
  have y:Hid (yy l=⟨5,x,0,m,0⟩):=by unfold yy;rw [←G.out,if_pos hq,←z.out];rfl
  go_wp2
  refine bodyPost_ret (v:=Ze ⟨5,x,0,m,0⟩) (by simp [results,Tryz.results160,go_sem,Ze]) rfl ⟨by rw [y.out],?_⟩
  exact (Below.refl w.heap.size w).alloc (Nat.le_refl _) _
 | false =>
  by_cases h20:20<m
  ·have y:Hid (yy l=⟨0,[],0,0,5⟩):=by unfold yy;rw [←G.out,if_neg (by rw [hq];simp),if_pos (by rw [←z.out];exact h20)];rfl
   go_wp2
   refine bodyPost_ret (v:=Ze ⟨0,[],0,0,5⟩) (by simp [results,Tryz.results160,go_sem,Ze]) rfl ⟨by rw [y.out],?_⟩
   exact (Below.refl w.heap.size w).alloc (Nat.le_refl _) _
  ·have y:Hid (yy l=⟨1,x,0,m,0⟩):=by unfold yy;rw [←G.out,if_neg (by rw [hq];simp),if_neg (by rw [←z.out];exact h20),←z.out];rfl
   go_wp2
   refine bodyPost_ret (v:=Ze ⟨1,x,0,m,0⟩) (by simp [results,Tryz.results160,go_sem,Ze]) rfl ⟨by rw [y.out],?_⟩
   exact (Below.refl w.heap.size w).alloc (Nat.le_refl _) _
def valA (acc:Nat):List UInt8→Nat
 | []=>acc
 | c::r=>valA (acc*10+(c.toNat-48)) r
theorem VL:∀(r:List UInt8) (acc:Nat),acc≤valA acc r
 | [],_=>Nat.le_refl _
 | c::r,acc=>Nat.le_trans (by omega) (VL r (acc*10+(c.toNat-48)))
theorem XL (ds:List UInt8):∀(o:Nat),(∀c∈ds,Zp c.toNat=true)→o<18446744073709551616 →
  Lib.parseUint10 o ds=if valA o ds<18446744073709551616 then .ok (valA o ds) else .range:=by
 induction ds with
 | nil =>
  intro o _ z;rw [show valA o []=o from rfl,if_pos z]
  rfl
 | cons c r ih =>
  intro o h z;have y:=h c (List.mem_cons_self ..)
  unfold Zp at y
  rw [Bool.and_eq_true,decide_eq_true_eq,decide_eq_true_eq] at y;have A:=VL r (o*10+(c.toNat-48));rw [show valA o (c::r)=valA (o*10+(c.toNat-48)) r from rfl]
  unfold Lib.parseUint10
  rw [if_pos y]
  by_cases h1:1844674407370955162≤o
  ·rw [if_pos h1,if_neg (by omega)]
  ·rw [if_neg h1]
   by_cases h2:18446744073709551616≤o*10+(c.toNat-48)
   ·rw [if_pos h2,if_neg (by omega)]
   ·rw [if_neg h2]
    exact ih _ (fun d hd=>h d (List.mem_cons_of_mem _ hd)) (by omega)
theorem vz {ds:List UInt8} (h:∀c∈ds,Zp c.toNat=true) (hne:ds≠[]) :
  Lib.atoiAll ds=if valA 0 ds<9223372036854775808 then .ok (valA 0 ds:Int) else .range:=by
 cases ds with
 | nil=>exact absurd rfl hne
 | cons c r =>
  have y:=h c (List.mem_cons_self ..)
  unfold Zp at y
  rw [Bool.and_eq_true,decide_eq_true_eq,decide_eq_true_eq] at y;have D:¬ (c.toNat=43∨c.toNat=45):=by omega
  have z:¬ c.toNat=45:=by omega
  have o:Lib.parseMag (c::r)=if valA 0 (c::r)<18446744073709551616 then .ok (valA 0 (c::r)) else .range:=by
   unfold Lib.parseMag;rw [if_neg (by simp)];exact XL _ 0 h (by omega)
  generalize valA 0 (c::r)=v at o ⊢;have A:(if c.toNat=43∨c.toNat=45 then r else c::r)=c::r:=if_neg D
  unfold Lib.atoiAll
  simp only [A];rw [o]
  by_cases h3:v<18446744073709551616
  ·rw [if_pos h3]
   by_cases h4:v<9223372036854775808
   ·simp only
    rw [if_neg (by omega),if_neg (by omega),if_neg z,if_pos h4]
   ·simp only
    rw [if_pos ⟨z,by omega⟩,if_neg h4]
  ·rw [if_neg h3,if_neg (by omega)]
theorem VM {p:UInt8→Bool}:∀(l:List UInt8) (c:UInt8),c∈l.takeWhile p→p c=true
 | [],c,h=>by simp at h
 | x::l,c,h=>by
  by_cases hx:p x=true
  ·rw [List.takeWhile_cons_of_pos hx] at h
   rcases List.mem_cons.1 h with rfl | h
   ·exact hx
   ·exact VM l c h
  ·rw [List.takeWhile_cons_of_neg hx] at h
   simp at h
def digL (l:List UInt8):List UInt8:=l.takeWhile fun c=>Zp c.toNat
def xy (l:List UInt8):TR:=if valA 0 (digL l)<9223372036854775808 then ⟨2,[],valA 0 (digL l),(digL l).length,0⟩ else ⟨0,[],0,0,5⟩
theorem VN (l:List UInt8):(digL l).length≤l.length:=(List.takeWhile_sublist _).length_le
theorem Ui (l:List UInt8):∀c∈digL l,Zp c.toNat=true:=fun c hc=>VM (p:=fun c=>Zp c.toNat) l c hc
theorem Y4 (l:List UInt8) (w:World) (hl:l.length≤140737488351232) (hne:digL l≠[]) (ht:ZB w) :
  Calls Tryz.prog 162 #[.string (za l)] w fun e w'=>e=.returned (Ze (xy l))∧Below w.heap.size w w':=by
 have HT:Hid (ZB w):=ht;have L:=VN l;obtain ⟨m,H⟩:∃m,m=(digL l).length:=⟨_,rfl⟩;rw [←H] at L;have G:=fun wx=>Vd wx l m L
 rw [show l.take m=digL l by rw [H];exact vy _ l] at G
 have M:Hid (m=(digL l).length):=H;have Y:m≤140737488351232:=by omega
 clear ht
 have HN:Hid (∀wx,Calls Tryz.prog 152 #[.string (za l),.func (.func 161) #[] #[]] wx fun e w'=>e=.returned (.int .i64 m)∧wx=w'):=fun wx=>by
  rw [H];exact ue l wx (by omega)
 have z:=vz (Ui l) hne;obtain ⟨x,R⟩:∃x,x=digL l:=⟨_,rfl⟩;rw [←R] at G M z;obtain ⟨v,T⟩:∃v,v=valA 0 x:=⟨_,rfl⟩;rw [←T] at z;have V:Hid (x=digL l):=R;have W:Hid (v=valA 0 x):=T;have J:Hid (Lib.atoiAll x=if v<9223372036854775808 then .ok (v:Int) else .range):=z
 clear R T z H
 go_enter Tryz.func162,Tryz.ntmps162
 go_wp2_with fail
 refine (HN.out _).mono ?_;rintro e w1 ⟨rfl,rfl⟩
 by_cases h63:v<9223372036854775808
 ·have K:=fun wx=>Tryz.strconv_Atoi_ok (za x) (by rw [zZ,←M.out];omega) v (by show Lib.atoiAll x=_;rw [J.out,if_pos h63]) wx
  have Q:Hid (xy l=⟨2,[],v,m,0⟩):=by unfold xy;rw [←V.out,←W.out,if_pos h63,←M.out];rfl
  go_wp2_with fail
  refine (K _).mono ?_;clear K;rintro e w1 ⟨rfl,E⟩
  have y:Below (w.heap.size+1) (w.alloc (Obj.cells #[Value.int IntKind.i64 0,Value.string ⟨#[]⟩,Value.int IntKind.i64 0,Value.int IntKind.i64 0,Value.int IntKind.i64 0] 142)) w1:=by
   rcases E with rfl | ⟨t,rfl⟩
   ·exact Below.refl _ _
   ·have D:=Lib.bytesWorld_below (w.alloc (Obj.cells #[Value.int IntKind.i64 0,Value.string ⟨#[]⟩,Value.int IntKind.i64 0,Value.int IntKind.i64 0,Value.int IntKind.i64 0] 142)) 5 t
    rw [World.size_alloc] at D;exact D
  clear E
  obtain ⟨A,O⟩:(∀o,w1.cell? ⟨w.heap.size,o,none⟩=(w.alloc (Obj.cells #[Value.int IntKind.i64 0,Value.string ⟨#[]⟩,Value.int IntKind.i64 0,Value.int IntKind.i64 0,Value.int IntKind.i64 0] 142)).cell? ⟨w.heap.size,o,none⟩)∧(∀o,w1.frozen? ⟨w.heap.size,o,none⟩=(w.alloc (Obj.cells #[Value.int IntKind.i64 0,Value.string ⟨#[]⟩,Value.int IntKind.i64 0,Value.int IntKind.i64 0,Value.int IntKind.i64 0] 142)).frozen? ⟨w.heap.size,o,none⟩) :=
   ⟨fun o=>y.cell (p:=⟨w.heap.size,o,none⟩) (by simp),fun o=>y.frozen (p:=⟨w.heap.size,o,none⟩) (by simp)⟩
  have U:Hid (Below w.heap.size w w1):=((Below.refl w.heap.size w).alloc (Nat.le_refl _) _).trans (y.mono (by omega))
  clear y;go_wp2
  refine bodyPost_ret (v:=Ze ⟨2,[],v,m,0⟩) (by simp [results,Tryz.results162,go_sem,Ze,A]) rfl ⟨by rw [Q.out],?_⟩
  exact ((((U.out.setCell (p:=⟨w.heap.size,0,none⟩) (Nat.le_refl _) _).setCell (p:=⟨w.heap.size,1,none⟩) (Nat.le_refl _) _).setCell (p:=⟨w.heap.size,2,none⟩) (Nat.le_refl _) _).setCell (p:=⟨w.heap.size,3,none⟩) (Nat.le_refl _) _).setCell (p:=⟨w.heap.size,4,none⟩) (Nat.le_refl _) _
 ·obtain ⟨Z,X,I⟩:=HT.out.range
  have K:=Tryz.strconv_Atoi_range (za x) (by rw [zZ,←M.out];omega) (by show Lib.atoiAll x=_;rw [J.out,if_neg h63]) (.iface Z X) (w.alloc (Obj.cells #[Value.int IntKind.i64 0,Value.string ⟨#[]⟩,Value.int IntKind.i64 0,Value.int IntKind.i64 0,Value.int IntKind.i64 0] 142)) (Lib.cell?_alloc_some _ I) (.inr ⟨Z,X,rfl⟩)
  have Q:Hid (xy l=⟨0,[],0,0,5⟩):=by unfold xy;rw [←V.out,←W.out,if_neg h63];rfl
  go_wp2_with fail
  refine K.mono ?_;clear K;rintro e w1 ⟨NN,rfl,-,-,y⟩;rw [World.size_alloc] at y
  obtain ⟨A,O⟩:(∀o,w1.cell? ⟨w.heap.size,o,none⟩=(w.alloc (Obj.cells #[Value.int IntKind.i64 0,Value.string ⟨#[]⟩,Value.int IntKind.i64 0,Value.int IntKind.i64 0,Value.int IntKind.i64 0] 142)).cell? ⟨w.heap.size,o,none⟩)∧(∀o,w1.frozen? ⟨w.heap.size,o,none⟩=(w.alloc (Obj.cells #[Value.int IntKind.i64 0,Value.string ⟨#[]⟩,Value.int IntKind.i64 0,Value.int IntKind.i64 0,Value.int IntKind.i64 0] 142)).frozen? ⟨w.heap.size,o,none⟩) :=
   ⟨fun o=>y.cell (p:=⟨w.heap.size,o,none⟩) (by simp),fun o=>y.frozen (p:=⟨w.heap.size,o,none⟩) (by simp)⟩
  have U:Hid (Below w.heap.size w w1):=((Below.refl w.heap.size w).alloc (Nat.le_refl _) _).trans (y.mono (by omega))
  clear y I;go_wp2
  refine bodyPost_ret (v:=Ze ⟨0,[],0,0,5⟩) (by simp [results,Tryz.results162,go_sem,Ze,A]) rfl ⟨by rw [Q.out],?_⟩
  exact ((((U.out.setCell (p:=⟨w.heap.size,0,none⟩) (Nat.le_refl _) _).setCell (p:=⟨w.heap.size,1,none⟩) (Nat.le_refl _) _).setCell (p:=⟨w.heap.size,2,none⟩) (Nat.le_refl _) _).setCell (p:=⟨w.heap.size,3,none⟩) (Nat.le_refl _) _).setCell (p:=⟨w.heap.size,4,none⟩) (Nat.le_refl _) _
def longer (l best x:List UInt8):List UInt8:=if best.length<x.length∧Lib.hasPrefix l x=true then x else best
def bestS (l:List UInt8) (n:Nat):List UInt8:=(signsL.take n).foldl (longer l) []
def Ya (l:List UInt8):TR:=if bestS l 25=[] then ⟨0,[],0,0,6⟩ else ⟨4,bestS l 25,0,(bestS l 25).length,0⟩
theorem Vg (l:List UInt8) (n:Nat) (h:n<signsL.length):bestS l (n+1)=longer l (bestS l n) signsL[n]:=by
 unfold bestS;rw [List.take_succ_eq_append_getElem h,List.foldl_append];rfl
theorem Xq (l:List UInt8) (n:Nat):(bestS l n).length≤2:=by
 have A:∀(o:List (List UInt8)) (b:List UInt8),(∀x∈o,x.length≤2)→b.length≤2→(o.foldl (longer l) b).length≤2:=by
  intro o
  induction o with
  | nil=>intro b _ D;exact D
  | cons x o ih =>
   intro b z D;refine ih _ (fun y hy=>z y (List.mem_cons_of_mem _ hy)) ?_
   unfold longer
   split
   ·exact z x (List.mem_cons_self ..)
   ·exact D
 exact A _ _ (fun x z=>by
  have:∀x∈signsL,x.length≤2:=by decide
  exact this x (List.mem_of_mem_take z)) (by simp)
def YL:List Value:=signsL.map fun x=>.string (za x)
def signsV:Value:=.agg YL.toArray
theorem vA {w:World} (ht:ZB w):w.rangeAt 8 0 YL:=fun j v hv=>by
 unfold YL at hv
 rw [List.getElem?_map] at hv;rcases Nat.lt_or_ge j signsL.length with h | h
 ·rw [List.getElem?_eq_getElem h] at hv
  simp only [Option.map_some,Option.some.injEq] at hv;rw [Nat.zero_add,ht.signs j h,hv]
 ·rw [List.getElem?_eq_none h] at hv;cases hv
theorem Vh:(Tryz.prog.info? 225).map (·.size)=some YL.length:=by kernel_rfl
theorem x8 (l:List UInt8) (w:World) (ht:ZB w) :
  Calls Tryz.prog 164 #[.string (za l)] w fun e w'=>e=.returned (Ze (Ya l))∧Below w.heap.size w w':=by
 have T:Hid (ZB w):=ht;clear ht
 go_enter Tryz.func164,Tryz.ntmps164
 go_wp2_with (refine wpList_load_mid rfl 225 _ rfl 8 0 rfl YL _ (vA (T.out.alloc _)) Tryz.underlying225 rfl Vh ?_)
 have U:Hid (∀(wx:World) (i:Nat) (h:i<25),(Instr.index 225 signsV (.int .i64 (i:Int))).run Tryz.prog wx=.ok (.string (za (signsL[i]'h))) wx):=fun wx i h=>uh wx i h
 rw [show Value.agg YL.toArray=signsV from rfl]
 generalize signsV=A at *
 go_loop [5,9] (fun vb v=>∃i:Nat,i≤25∧v=.int .i64 i∧vb=.string (za (bestS l i))) (fun _ v=>25-(intOf v).toNat)
 case atStart=>exact ⟨0,Nat.zero_le _,rfl,rfl⟩
 case round =>
  obtain ⟨i,V,rfl,rfl⟩:=hrel;have H:=Xq l i;obtain ⟨b,K⟩:∃b,b=bestS l i:=⟨_,rfl⟩;rw [←K] at H ⊢;have M:Hid (b=bestS l i):=K;clear K
  by_cases hlt:i<25
  ·have D:=fun wx=>U.out wx i hlt
   obtain ⟨x,E⟩:∃x,x=signsL[i]'hlt:=⟨_,rfl⟩;rw [←E] at D
   have O:x.length≤2:=by
    have:∀x∈signsL,x.length≤2:=by decide
    rw [E];exact this _ (List.getElem_mem _)
   have I:Hid (bestS l (i+1)=longer l b x):=show bestS l (i+1)=longer l b x by rw [Vg l i hlt,M.out,E]
   have R:(za x).size=x.length:=rfl;have L:(za b).size=b.length:=rfl;clear E
   by_cases hlen:b.length<x.length
   ·have G:=fun wx=>Tryz.strings_HasPrefix (za l) (za x) wx
    cases hp:Lib.hasPrefix l x with
    | true =>
     have z:Lib.hasPrefix (za l).data.toList (za x).data.toList=true:=hp;rw [z] at G;have o:Hid (bestS l (i+1)=x):=show bestS l (i+1)=x by rw [I.out];unfold longer;rw [if_pos ⟨hlen,hp⟩]
     clear z;go_wp2_with (go_at_call 154;refine (G _).mono ?_;rintro e Q ⟨rfl,rfl⟩)
     refine ⟨⟨i+1,by omega,by go_num,by rw [o.out]⟩,by simp [intOf];omega⟩
    | false =>
     have z:Lib.hasPrefix (za l).data.toList (za x).data.toList=false:=hp;rw [z] at G;have o:Hid (bestS l (i+1)=b):=show bestS l (i+1)=b by rw [I.out];unfold longer;rw [if_neg (fun h=>by rw [hp] at h;exact absurd h.2 (by decide))]
     clear z;go_wp2_with (go_at_call 154;refine (G _).mono ?_;rintro e Q ⟨rfl,rfl⟩)
     refine ⟨⟨i+1,by omega,by go_num,by rw [o.out]⟩,by simp [intOf];omega⟩
   ·have o:Hid (bestS l (i+1)=b):=show bestS l (i+1)=b by rw [I.out];unfold longer;rw [if_neg (fun h=>hlen h.1)]
    go_wp2
    refine ⟨⟨i+1,by omega,by go_num,by rw [o.out]⟩,by simp [intOf];omega⟩
  ·obtain rfl:i=25:=by omega
   have L:(za b).size=b.length:=rfl;cases b with
   | nil =>
    have J:Hid (Ya l=⟨0,[],0,0,6⟩):=by unfold Ya;rw [←M.out,if_pos rfl];rfl
    go_wp2
    refine bodyPost_ret (v:=Ze ⟨0,[],0,0,6⟩) (by simp [results,Tryz.results164,go_sem,Ze]) rfl ⟨by rw [J.out],?_⟩
    exact (Below.refl w.heap.size w).alloc (Nat.le_refl _) _
   | cons y ys =>
    have J:Hid (Ya l=⟨4,y::ys,0,(y::ys).length,0⟩):=by unfold Ya;rw [←M.out,if_neg (by simp)];rfl
    go_wp2
    refine bodyPost_ret (v:=Ze ⟨4,y::ys,0,(y::ys).length,0⟩) (by simp [results,Tryz.results164,go_sem,Ze]) rfl ⟨by rw [J.out],?_⟩
    exact (Below.refl w.heap.size w).alloc (Nat.le_refl _) _
def Y5:List UInt8→Nat × Nat
 | []=>(0,0)
 | x::r=>if x.toNat<32∨126<x.toNat then (0,0) else if x.toNat≠92 then (x.toNat,1) else
  match r with
  | []=>(0,0)
  | y::_=>if y.toNat=92 then (92,2) else if y.toNat=34 then (34,2) else if y.toNat=110 then (10,2) else (0,0)
theorem XM (w:World) (l:List UInt8) (i:Nat) (h:i<l.length):(Instr.index 9 (.string (za l)) (.int .i64 (i:Int))).run Tryz.prog w=.ok (.int .u8 ((l[i]).toNat:Int)) w:=by
 rw [run_index_string (P:=Tryz.prog) (w:=w) 9 (za l) .i64 _ Tryz.underlying9,dif_pos ⟨by omega,by rw [zZ];omega⟩]
 simp only [Int.toNat_natCast]
 rfl
theorem Xr {a:Nat × Nat} {c k:Nat} (h:a=(c,k)):(Ending.returned (.tuple #[.int .u8 (c:Int),.int .i64 (k:Int)]):Ending)=.returned (.tuple #[.int .u8 (a.1:Int),.int .i64 (a.2:Int)]):=by rw [h]
theorem VO {x:UInt8} {r:List UInt8} (h:x.toNat<32∨126<x.toNat):Y5 (x::r)=(0,0):=by
 show (if _ then _ else _)=_;rw [if_pos h]
theorem VP {x:UInt8} {r:List UInt8} (h:¬ (x.toNat<32∨126<x.toNat)) (h2:x.toNat≠92):Y5 (x::r)=(x.toNat,1):=by
 show (if _ then _ else _)=_;rw [if_neg h,if_pos h2]
theorem VQ {x:UInt8} (h:¬ (x.toNat<32∨126<x.toNat)) (h2:x.toNat=92):Y5 [x]=(0,0):=by
 show (if _ then _ else _)=_;rw [if_neg h,if_neg (by omega)]
def qu (m:Nat):Nat × Nat:=if m=92 then (92,2) else if m=34 then (34,2) else if m=110 then (10,2) else (0,0)
theorem VR {x y:UInt8} {t:List UInt8} (h:¬ (x.toNat<32∨126<x.toNat)) (h2:x.toNat=92):Y5 (x::y::t)=qu y.toNat:=by
 show (if _ then _ else _)=_;rw [if_neg h,if_neg (by omega)];rfl
def XN:List Nat:=[92,34,110]
def qi:List Nat:=[92,34,10]
theorem qj {m i:Nat} (hi:i<3) (h:∀j (hj:j<3),j<i→(XN[j]'hj)≠m) (he:(XN[i]'hi)=m):qu m=((qi[i]'hi),2):=by
 have o:i=0∨i=1∨i=2:=by omega
 rcases o with rfl | rfl | rfl
 ·rw [←he];rfl
 ·rw [←he];rfl
 ·rw [←he];rfl
theorem US {m:Nat} (h:∀j (hj:j<3),(XN[j]'hj)≠m):qu m=(0,0):=by
 have y:92≠m:=h 0 (by decide)
 have z:34≠m:=h 1 (by decide)
 have o:110≠m:=h 2 (by decide)
 unfold qu
 rw [if_neg (by omega),if_neg (by omega),if_neg (by omega)]
theorem Uj (w:World) (i:Nat) (h:i<3):(Instr.index 229 (.agg #[.int .u8 92,.int .u8 92,.int .u8 34,.int .u8 34,.int .u8 10,.int .u8 110]) (.int .i64 (i:Int))).run Tryz.prog w=.ok (.agg #[.int .u8 ((qi[i]'h:Nat):Int),.int .u8 ((XN[i]'h:Nat):Int)]) w:=by
 have o:i=0∨i=1∨i=2:=by omega
 rcases o with rfl | rfl | rfl
 all_goals rfl
theorem XO (x:UInt8) (r:List UInt8) (w:World) (hl:r.length≤9223372036854775000) (ht:ZB w) :
  Calls Tryz.prog 175 #[.string (za (x::r))] w fun e w'=>e=.returned (.tuple #[.int .u8 (Y5 (x::r)).1,.int .i64 (Y5 (x::r)).2])∧Below w.heap.size w w':=by
 have O:=fun wx=>XM wx (x::r) 0 (by simp)
 rw [show ((0:Nat):Int)=0 from rfl,show (x::r)[0]=x from rfl] at O
 have z:(za (x::r)).size=r.length+1:=rfl;obtain ⟨n,o⟩:∃n,n=x.toNat:=⟨_,rfl⟩;have R:n<256:=by rw [o];exact UInt8.toNat_lt x
 rw [←o] at O;obtain ⟨S,I⟩:∃S,S=za (x::r):=⟨_,rfl⟩;rw [←I] at O z ⊢;have e0:=ht.escs 0 (by decide)
 have Z:=ht.escs 1 (by decide)
 have e2:=ht.escs 2 (by decide)
 have W:=ht.escs 3 (by decide)
 have e4:=ht.escs 4 (by decide)
 have V:=ht.escs 5 (by decide)
 simp only [List.getElem_cons_zero,List.getElem_cons_succ] at e0 Z e2 W e4 V;clear ht
 by_cases hbad:n<32∨126<n
 ·have A:Hid (Y5 (x::r)=(0,0)):=VO (by rw [←o];exact hbad)
  clear I o;rcases hbad with G | G
  ·go_enter Tryz.func175,Tryz.ntmps175
   go_wp2
   go_ret2
   exact ⟨Xr A.out,Below.refl _ _⟩
  ·go_enter Tryz.func175,Tryz.ntmps175
   go_wp2
   go_ret2
   exact ⟨Xr A.out,Below.refl _ _⟩
 ·by_cases h92:n=92
  ·cases r with
   | nil =>
    have A:Hid (Y5 [x]=(0,0)):=VQ (by rw [←o];exact hbad) (by rw [←o];exact h92)
    have aa:S.size=1:=z;clear I o hbad z;subst h92
    go_enter Tryz.func175,Tryz.ntmps175
    go_wp2
    go_ret2
    exact ⟨Xr A.out,Below.refl _ _⟩
   | cons y t =>
    have h1:=fun wx=>XM wx (x::y::t) 1 (by simp)
    rw [show ((1:Nat):Int)=1 from rfl,show (x::y::t)[1]=y from rfl] at h1
    obtain ⟨m,M⟩:∃m,m=y.toNat:=⟨_,rfl⟩;have Q:m<256:=by rw [M];exact UInt8.toNat_lt y
    rw [←M,←I] at h1;have J:Hid (Y5 (x::y::t)=qu m):=show _=_ by rw [M];exact VR (by rw [←o];exact hbad) (by rw [←o];exact h92)
    have X:S.size=t.length+2:=z;have Y:((t.length:Int)+2==1)=false:=by rw [beq_eq_false_iff_ne];omega
    have ad:t.length+1≤9223372036854775000:=by simpa using hl
    clear I o hbad z M hl;subst h92
    go_enter Tryz.func175,Tryz.ntmps175
    go_wp2
    clear e0 Z e2 W e4 V
    go_loopw [26] (fun v wr=>∃i:Nat,i≤3∧v=.int .i64 i∧(∀j (hj:j<3),j<i→(XN[j]'hj)≠m)∧Below w.heap.size w wr) (fun v _=>3-(intOf v).toNat)
    case atStart=>exact ⟨0,Nat.zero_le _,rfl,fun j _ h=>by omega,Below.refl _ _⟩
    case round =>
     obtain ⟨i,hi,rfl,D,H⟩:=hrel;have T:Hid (∀j (hj:j<3),j<i→(XN[j]'hj)≠m):=D;have U:Hid (Below w.heap.size w wr):=H;have E:=H.size;clear D H
     by_cases hlt:i<3
     ·have K:=fun wx=>Uj wx i hlt
      obtain ⟨a,L⟩:∃a,a=qi[i]'hlt:=⟨_,rfl⟩;obtain ⟨b,G⟩:∃b,b=XN[i]'hlt:=⟨_,rfl⟩;rw [←L,←G] at K
      by_cases he:b=m
      ·have A:Hid (Y5 (x::y::t)=(a,2)):=show _=_ by rw [J.out,L];exact qj hlt T.out (by rw [←G];exact he)
       subst he;clear L G;go_wp2
       go_quiet (fail)
       go_wp2
       go_ret2
       refine ⟨Xr A.out,?_⟩;exact (U.out.alloc E _).trans ⟨rfl,rfl,rfl,Nat.le_refl _,fun _ _=>rfl⟩
      ·have af:((b:Int)==(m:Int))=false:=by rw [beq_eq_false_iff_ne];omega
       have HE:Hid ((XN[i]'hlt)≠m):=show (XN[i]'hlt)≠m by rw [←G];exact he
       clear L G he;go_wp2
       go_quiet (fail)
       go_wp2
       refine ⟨⟨i+1,by omega,by go_num,fun j hj hji=>?_,(U.out.alloc E _).trans ⟨rfl,rfl,rfl,Nat.le_refl _,fun _ _=>rfl⟩⟩,by simp [intOf];omega⟩
       by_cases h:j<i
       ·exact T.out j hj h
       ·obtain rfl:j=i:=by omega
        exact HE.out
     ·obtain rfl:i=3:=by omega
      have A:Hid (Y5 (x::y::t)=(0,0)):=show _=_ by rw [J.out];exact US (fun j hj=>T.out j hj hj)
      go_wp2
      go_ret2
      exact ⟨Xr A.out,U.out⟩
  ·have A:Hid (Y5 (x::r)=(n,1)):=show Y5 (x::r)=(n,1) by rw [o];exact VP (by rw [←o];exact hbad) (by rw [←o];exact h92)
   have ae:32≤n:=by omega
   have ab:n≤126:=by omega
   clear I o hbad
   go_enter Tryz.func175,Tryz.ntmps175
   go_wp2
   go_ret2
   exact ⟨Xr A.out,Below.refl _ _⟩
def Zj:Nat→List UInt8→Nat→List UInt8→TR
 | 0,_,_,_=>⟨0,[],0,0,6⟩
 | _+1,_,_,[]=>⟨0,[],0,0,6⟩
 | f+1,meant,at0,x::r=>if x.toNat=34 then ⟨3,meant,0,at0+1,0⟩ else if (Y5 (x::r)).2=0 then ⟨0,[],0,0,6⟩ else if meant.length=255 then ⟨0,[],0,0,5⟩
  else Zj f (meant++[(Y5 (x::r)).1.toUInt8]) (at0+(Y5 (x::r)).2) ((x::r).drop (Y5 (x::r)).2)
def yh (l:List UInt8):TR:=Zj l.length [] 1 (l.drop 1)
theorem Uk (l:List UInt8):(Y5 l).2≤l.length∧(Y5 l).1<256:=by
 cases l with
 | nil=>exact ⟨Nat.le_refl _,by decide⟩
 | cons x r =>
  by_cases h:x.toNat<32∨126<x.toNat
  ·rw [VO h];simp
  ·by_cases h2:x.toNat=92
   ·cases r with
    | nil=>rw [VQ h h2];simp
    | cons y t =>
     rw [VR h h2]
     unfold qu
     split
     ·simp
     ·split
      ·simp
      ·split <;> simp
   ·rw [VP h h2]
    have:=UInt8.toNat_lt x
    simp;omega
abbrev yj:Obj:=Obj.cells #[Value.int IntKind.i64 0,Value.string ⟨#[]⟩,Value.int IntKind.i64 0,Value.int IntKind.i64 0,Value.int IntKind.i64 0] 142
theorem yz {w w1:World} (hb:Below (w.heap.size+1) (w.alloc yj) w1) :
  (∀o,w1.cell? ⟨w.heap.size,o,none⟩=(w.alloc yj).cell? ⟨w.heap.size,o,none⟩)∧(∀o,w1.frozen? ⟨w.heap.size,o,none⟩=(w.alloc yj).frozen? ⟨w.heap.size,o,none⟩) :=
 ⟨fun o=>hb.cell (p:=⟨w.heap.size,o,none⟩) (by simp),fun o=>hb.frozen (p:=⟨w.heap.size,o,none⟩) (by simp)⟩
theorem Zt {w w1:World} (h:Below w.heap.size w w1) (a b c d e:Value) :
  Below w.heap.size w (((((w1.setCell ⟨w.heap.size,0,none⟩ a).setCell ⟨w.heap.size,1,none⟩ b).setCell ⟨w.heap.size,2,none⟩ c).setCell ⟨w.heap.size,3,none⟩ d).setCell ⟨w.heap.size,4,none⟩ e) :=
 ((((h.setCell (p:=⟨w.heap.size,0,none⟩) (Nat.le_refl _) _).setCell (p:=⟨w.heap.size,1,none⟩) (Nat.le_refl _) _).setCell (p:=⟨w.heap.size,2,none⟩) (Nat.le_refl _) _).setCell (p:=⟨w.heap.size,3,none⟩) (Nat.le_refl _) _).setCell (p:=⟨w.heap.size,4,none⟩) (Nat.le_refl _) _
theorem ul {w w':World} {B C e n:Nat} {v:Value} {xs:List Value} (h:w.ownsRow B e 1 v n xs) (hb:Below C w w') (hC:w.heap.size≤C):w'.ownsRow B e 1 v n xs :=
 h.kept (row:=none) ⟨hb.os,hb.tape,hb.output,hb.size,fun k hk _=>hb.block k (by omega)⟩ (by cases h':v.ownBlock <;> simp)
theorem x9 (l:List UInt8) (w:World) (hl:l.length≤140737488351232) (hl1:1≤l.length) (ht:ZB w) :
  Calls Tryz.prog 163 #[.string (za l)] w fun e w'=>e=.returned (Ze (yh l))∧Below w.heap.size w w':=by
 have HT:Hid (ZB w):=ht;have aC:(za l).size=l.length:=rfl;have hA:Below w.heap.size w (w.alloc yj):=(Below.refl w.heap.size w).alloc (Nat.le_refl _) _;have HA:Hid (Below w.heap.size w (w.alloc yj)):=hA;clear ht hA
 go_enter Tryz.func163,Tryz.ntmps163
 go_wp2
 go_loopw [5,6] (fun vm va wr=>∃(f at0:Nat) (o:List UInt8),va=.int .i64 at0∧at0≤l.length∧l.length≤at0+f∧o.length≤255∧yh l=Zj f o at0 (l.drop at0) ∧
   wr.ownsRow (w.heap.size+1) 5 1 vm o.length (Lib.byteCells o)∧Below (w.heap.size+1) (w.alloc yj) wr) (fun _ a _=>l.length-(intOf a).toNat)
 case atStart=>exact ⟨l.length,1,[],rfl,hl1,by omega,by simp,rfl,World.ownsRow_nil _ _ _ _,Below.refl _ _⟩
 case round =>
  obtain ⟨f,at0,o,rfl,aB,aD,am,af,T,G⟩:=hrel;have aj:Hid (yh l=Zj f o at0 (l.drop at0)):=af;have ak:Hid (Below (w.heap.size+1) (w.alloc yj) wr):=G;have HB:Hid (Below w.heap.size w wr):=HA.out.trans (G.mono (by omega))
  have U:=G.size;rw [World.size_alloc] at U;obtain ⟨D,ad⟩:=yz G;have HO:Hid (wr.ownsRow (w.heap.size+1) 5 1 u5 o.length (Lib.byteCells o)):=T;clear af G T
  by_cases hlt:at0<l.length
  ·obtain ⟨x,r,A⟩:∃x r,l.drop at0=x::r:=⟨l[at0],l.drop (at0+1),List.drop_eq_getElem_cons hlt⟩
   have ag:l[at0]=x:=by
    have h:=List.drop_eq_getElem_cons hlt;rw [A] at h;exact (List.cons.inj h).1.symm
   have R:=fun wx=>XM wx l at0 hlt
   rw [ag] at R;obtain ⟨n,hn⟩:∃n,n=x.toNat:=⟨_,rfl⟩;rw [←hn] at R;have ap:n<256:=by rw [hn];exact UInt8.toNat_lt x
   obtain ⟨f',rfl⟩:∃f',f=f'+1:=⟨f-1,by omega⟩
   have ai:Hid (yh l=if n=34 then ⟨3,o,0,at0+1,0⟩ else if (Y5 (x::r)).2=0 then ⟨0,[],0,0,6⟩ else if o.length=255 then ⟨0,[],0,0,5⟩ else Zj f' (o++[(Y5 (x::r)).1.toUInt8]) (at0+(Y5 (x::r)).2) ((x::r).drop (Y5 (x::r)).2)):=show _=_ by
    rw [aj.out,A,hn];rfl
   have av:=fun wx=>yW wx l at0 (by omega)
   rw [A] at av;have ae:(x::r).length=l.length-at0:=by rw [←A,List.length_drop]
   have an:Hid (l.drop at0=x::r):=A;clear ag hn A
   by_cases h34:n=34
   ·have O:Hid (yh l=⟨3,o,0,at0+1,0⟩):=show _=_ by rw [ai.out,if_pos h34]
    subst h34;obtain ⟨z,E,rfl,K,-,-,-⟩:=Yy HO.out;have aA:=yw wr z o E K;clear K;go_wp2
    refine bodyPost_ret (v:=Ze ⟨3,o,0,at0+1,0⟩) (by simp [results,Tryz.results163,go_sem,Ze,D]) rfl ⟨by rw [O.out],?_⟩
    exact Zt HB.out _ _ _ _ _
   ·have az:((n:Int)==34)=false:=by rw [beq_eq_false_iff_ne];omega
    have I:=Uk (x::r);have cb:=XO x r wr (by simp at ae;omega) (HT.out.below HB.out (Nat.le_refl _))
    obtain ⟨c,L,W⟩:∃c L,Y5 (x::r)=(c,L):=⟨_,_,rfl⟩;rw [W] at cb I;simp only at I
    have V:Hid (yh l=if L=0 then ⟨0,[],0,0,6⟩ else if o.length=255 then ⟨0,[],0,0,5⟩ else Zj f' (o++[c.toUInt8]) (at0+L) ((x::r).drop L)):=show _=_ by
     rw [ai.out,if_neg h34,W]
    clear W h34;go_wp2_with fail
    refine cb.mono ?_;clear cb D ad;rintro e w2 ⟨rfl,M⟩;have aw:=M.size;have Q:Below (w.heap.size+1) (w.alloc yj) w2:=ak.out.trans (M.mono U);obtain ⟨D,ad⟩:=yz Q;have au:Hid (Below (w.heap.size+1) (w.alloc yj) w2):=Q;have ah:Hid (Below w.heap.size w w2):=HA.out.trans (Q.mono (by omega))
    have X:Hid (w2.ownsRow (w.heap.size+1) 5 1 u5 o.length (Lib.byteCells o)):=ul HO.out M (Nat.le_refl _);clear M Q HO ak
    by_cases hs0:L=0
    ·have O:Hid (yh l=⟨0,[],0,0,6⟩):=show _=_ by rw [V.out,if_pos hs0]
     subst hs0;go_wp2
     refine bodyPost_ret (v:=Ze ⟨0,[],0,0,6⟩) (by simp [results,Tryz.results163,go_sem,Ze,D]) rfl ⟨by rw [O.out],?_⟩
     exact Zt ah.out _ _ _ _ _
    ·have ax:((L:Int)==0)=false:=by rw [beq_eq_false_iff_ne];omega
     obtain ⟨z,E,rfl,-,-,-,-⟩:=Yy X.out;obtain ⟨Z,y⟩:∃Z,Z=o.length:=⟨_,rfl⟩;have al:Hid (Z=o.length):=y;rw [←y]
     by_cases h255:Z=255
     ·have O:Hid (yh l=⟨0,[],0,0,5⟩):=show _=_ by rw [V.out,if_neg hs0,if_pos (by rw [←y];exact h255)]
      clear y;subst h255;go_wp2
      refine bodyPost_ret (v:=Ze ⟨0,[],0,0,5⟩) (by simp [results,Tryz.results163,go_sem,Ze,D]) rfl ⟨by rw [O.out],?_⟩
      exact Zt ah.out _ _ _ _ _
     ·have ao:((Z:Int)==255)=false:=by rw [beq_eq_false_iff_ne];omega
      have O:Hid (yh l=Zj f' (o++[c.toUInt8]) (at0+L) (l.drop (at0+L))):=show _=_ by
       rw [V.out,if_neg hs0,if_neg (by rw [←y];exact h255),←an.out,List.drop_drop]
      have ab:Hid (w2.ownsRow (w.heap.size+1) 5 1 (.slice z Z E) o.length (Lib.byteCells o)):=by rw [y];exact X.out
      have Y:=I.2;have aa:=I.1;rw [ae] at aa;have ay:o.length≤255:=am;clear y X I
      go_wp2_with (at_builtin;refine Yz rfl _ _ rfl (w.heap.size+1) _ o rfl (ab.out.alloc _) _ [c.toUInt8] rfl (vj Y (by simp)) (by simp;omega) (by simp;omega) ?_)
      intro v3 w3 H J;have ar:Hid (Below (w.heap.size+1) (w.alloc yj) w3):=(au.out.alloc (by omega) _).grown J (by simp;omega) (fun q hq=>(ab.out.lt q hq).1)
      have aq:Hid (w3.ownsRow (w.heap.size+1) 5 1 v3 (o++[c.toUInt8]).length (Lib.byteCells (o++[c.toUInt8]))):=by
       rw [show (o++[c.toUInt8]).length=o.length+1 by simp];exact H
      clear J H;go_wp2
      refine ⟨⟨f',at0+L,o++[c.toUInt8],by go_num,by omega,by omega,?_,O.out,aq.out,ar.out⟩,by simp [intOf];omega⟩
      rw [List.length_append,List.length_singleton,←al.out]
      have:=al.out
      omega
  ·obtain rfl:at0=l.length:=by omega
   have O:Hid (yh l=⟨0,[],0,0,6⟩):=show _=_ by
    rw [aj.out,List.drop_length];cases f <;> rfl
   go_wp2
   refine bodyPost_ret (v:=Ze ⟨0,[],0,0,6⟩) (by simp [results,Tryz.results163,go_sem,Ze,D]) rfl ⟨by rw [O.out],?_⟩
   exact Zt HB.out _ _ _ _ _
def ZJ (l:List UInt8):TR :=
 match l with
 | []=>⟨0,[],0,0,0⟩
 | x::_=>if Z9 x.toNat=true then yy l else if Zp x.toNat=true then xy l else if x.toNat=34 then yh l else Ya l
theorem UT {x:UInt8} {r:List UInt8} (h:Zp x.toNat=true):digL (x::r)≠[]:=by
 unfold digL;simp [h]
theorem um (l:List UInt8) (w:World) (hl:l.length≤140737488351232) (ht:ZB w) :
  Calls Tryz.prog 141 #[.string (za l)] w fun e w'=>e=.returned (Ze (ZJ l))∧Below w.heap.size w w':=by
 have U:Below w.heap.size w (w.alloc yj):=(Below.refl w.heap.size w).alloc (Nat.le_refl _) _;have Q:Hid (Below w.heap.size w (w.alloc yj)):=U;have T:Hid (ZB (w.alloc yj)):=ht.alloc _;clear ht U;cases l with
 | nil =>
  go_enter Tryz.func141,Tryz.ntmps141
  go_wp2
  refine bodyPost_ret (v:=Ze ⟨0,[],0,0,0⟩) (by simp [results,Tryz.results141,go_sem,Ze]) rfl ⟨rfl,?_⟩
  exact Q.out
 | cons x r =>
  have J:=fun wx=>XM wx (x::r) 0 (by simp)
  rw [show ((0:Nat):Int)=0 from rfl,show (x::r)[0]=x from rfl] at J
  obtain ⟨n,O⟩:∃n,n=x.toNat:=⟨_,rfl⟩;rw [←O] at J;have G:n<256:=by rw [O];exact UInt8.toNat_lt x
  have H:Hid (ZJ (x::r)=if Z9 n=true then yy (x::r) else if Zp n=true then xy (x::r) else if n=34 then yh (x::r) else Ya (x::r)):=show _=_ by rw [O];rfl
  have Y:Hid (Zp n=true→digL (x::r)≠[]):=fun h=>UT (by rw [←O];exact h)
  have Z:¬ (x::r)=[]:=by simp
  clear O
  go_enter Tryz.func141,Tryz.ntmps141
  have aa:(x::r).length≤140737488351232:=hl;have I:Hid (∀(R:TR) (A:World),Below (w.alloc yj).heap.size (w.alloc yj) A→Below (w.heap.size+1) (w.alloc yj) A):=fun R A h=>by rw [World.size_alloc] at h;exact h
  have W:=yg n G (w.alloc yj);go_wp2_with fail
  refine W.mono ?_;clear W;rintro e A ⟨rfl,rfl⟩;cases h1:Z9 n with
  | true =>
   obtain ⟨R,E⟩:∃R,R=yy (x::r):=⟨_,rfl⟩;have z:=x7 (x::r) (w.alloc yj) (by omega) T.out
   rw [←E] at z;have L:Hid (ZJ (x::r)=R):=show _=_ by rw [H.out,if_pos h1,E]
   unfold Ze at z
   clear E;go_wp2_with fail
   refine z.mono ?_;clear z;rintro e A ⟨rfl,y⟩;have o:=I.out R A y;obtain ⟨D,K⟩:=yz o;have M:Hid (Below w.heap.size w A):=Q.out.trans (o.mono (by omega))
   clear y o;go_wp2
   refine bodyPost_ret (v:=Ze R) (by simp [results,Tryz.results141,go_sem,Ze,D]) rfl ⟨by rw [L.out],?_⟩
   exact Zt M.out _ _ _ _ _
  | false =>
   have V:=yX n G (w.alloc yj);go_wp2_with fail
   refine V.mono ?_;clear V;rintro e A ⟨rfl,rfl⟩;cases h2:Zp n with
   | true =>
    obtain ⟨R,E⟩:∃R,R=xy (x::r):=⟨_,rfl⟩;have z:=Y4 (x::r) (w.alloc yj) (by omega) (Y.out h2) T.out
    rw [←E] at z;have L:Hid (ZJ (x::r)=R):=show _=_ by rw [H.out,if_neg (by rw [h1];simp),if_pos h2,E]
    unfold Ze at z
    clear E;go_wp2_with fail
    refine z.mono ?_;clear z;rintro e A ⟨rfl,y⟩;have o:=I.out R A y;obtain ⟨D,K⟩:=yz o;have M:Hid (Below w.heap.size w A):=Q.out.trans (o.mono (by omega))
    clear y o;go_wp2
    refine bodyPost_ret (v:=Ze R) (by simp [results,Tryz.results141,go_sem,Ze,D]) rfl ⟨by rw [L.out],?_⟩
    exact Zt M.out _ _ _ _ _
   | false =>
    by_cases h34:n=34
    ·obtain ⟨R,E⟩:∃R,R=yh (x::r):=⟨_,rfl⟩
     have z:=x9 (x::r) (w.alloc yj) (by omega) (by simp) T.out
     rw [←E] at z;have L:Hid (ZJ (x::r)=R):=show _=_ by rw [H.out,if_neg (by rw [h1];simp),if_neg (by rw [h2];simp),if_pos h34,E]
     subst h34
     unfold Ze at z
     clear E;go_wp2_with fail
     refine z.mono ?_;clear z;rintro e A ⟨rfl,y⟩;have o:=I.out R A y;obtain ⟨D,K⟩:=yz o;have M:Hid (Below w.heap.size w A):=Q.out.trans (o.mono (by omega))
     clear y o;go_wp2
     refine bodyPost_ret (v:=Ze R) (by simp [results,Tryz.results141,go_sem,Ze,D]) rfl ⟨by rw [L.out],?_⟩
     exact Zt M.out _ _ _ _ _
    ·obtain ⟨R,E⟩:∃R,R=Ya (x::r):=⟨_,rfl⟩
     have X:((n:Int)==34)=false:=by rw [beq_eq_false_iff_ne];omega
     have z:=x8 (x::r) (w.alloc yj) T.out;rw [←E] at z;have L:Hid (ZJ (x::r)=R):=show _=_ by rw [H.out,if_neg (by rw [h1];simp),if_neg (by rw [h2];simp),if_neg h34,E]
     unfold Ze at z
     clear E;go_wp2_with fail
     refine z.mono ?_;clear z;rintro e A ⟨rfl,y⟩;have o:=I.out R A y;obtain ⟨D,K⟩:=yz o;have M:Hid (Below w.heap.size w A):=Q.out.trans (o.mono (by omega))
     clear y o;go_wp2
     refine bodyPost_ret (v:=Ze R) (by simp [results,Tryz.results141,go_sem,Ze,D]) rfl ⟨by rw [L.out],?_⟩
     exact Zt M.out _ _ _ _ _
end Go.Proofs.YtmbofhpmockmbaaGreatDoor

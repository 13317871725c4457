import Derived.Test.YtbjndgachcdbcaaGreatDoorMC1
import Derived.Test.YtbjndgachcdbcaaGreatDoorWAll
import Derived.Deep.MidRow
import Derived.LoopN
namespace Go.Proofs.YtbjndgachcdbcaaGreatDoor
open Go.RowKit
set_option maxHeartbeats 16000000
set_option maxRecDepth 100000
structure TR where
 k:Nat
 s:List UInt8
 n:Nat
 sz:Nat
 e:Nat
def zy (r:TR):Value:=.tuple #[.agg #[.int .i64 r.k,.string (za r.s),.int .i64 r.n,.int .i64 0,.int .i64 0],.int .i64 r.sz,.int .i64 r.e]
def Zt (l:List UInt8):List UInt8:=l.takeWhile fun c=>YP c.toNat
def Z6 (l:List UInt8):TR:=if Zy (Zt l)=true then ⟨5,Zt l,0,(Zt l).length,0⟩ else if 20<(Zt l).length then ⟨0,[],0,0,5⟩ else ⟨1,Zt l,0,(Zt l).length,0⟩
theorem xz (p:UInt8→Bool) (l:List UInt8):l.take (l.takeWhile p).length=l.takeWhile p:=by
 induction l with
 | nil=>rfl
 | cons x l ih =>
  by_cases h:p x=true
  ·simp [h,ih]
  ·simp [h]
theorem vR (l:List UInt8):(Zt l).length≤l.length:=(List.takeWhile_sublist _).length_le
theorem z7.alloc {w:World} (h:z7 w) (o:Obj):z7 (w.alloc o) :=
 ⟨fun j hj=>Lib.cell?_alloc_some o (h.words j hj),fun j hj=>Lib.cell?_alloc_some o (h.signs j hj),fun j hj=>Lib.cell?_alloc_some o (h.escs j hj),by obtain ⟨a,b,c⟩:=h.range;exact ⟨a,b,Lib.cell?_alloc_some o c⟩⟩
theorem z7.below {w w':World} {B:Nat} (h:z7 w) (hb:Below B w w') (hB:w.heap.size≤B):z7 w':=by
 have e:∀{p:Addr} {v:Value},w.cell? p=some v→w'.cell? p=some v:=fun {p v} hp=>by
  rw [hb.cell (Nat.lt_of_lt_of_le (World.block_lt_of_cell? w _ hp) hB)];exact hp
 exact ⟨fun j hj=>e (h.words j hj),fun j hj=>e (h.signs j hj),fun j hj=>e (h.escs j hj),by obtain ⟨a,b,c⟩:=h.range;exact ⟨a,b,e c⟩⟩
theorem YB (l:List UInt8) (w:World) (hl:l.length≤9223372036854775000) (ht:z7 w) :
  Calls Tryz.prog 63 #[.string (za l)] w fun e w'=>e=.returned (zy (Z6 l))∧Below w.heap.size w w':=by
 have B:Hid (z7 w):=ht;have b:=vR l;obtain ⟨m,o⟩:∃m,m=(Zt l).length:=⟨_,rfl⟩;rw [←o] at b;have u:=fun wx=>Xl wx l m b
 rw [show l.take m=Zt l by rw [o];exact xz _ l] at u
 have q:Hid (m=(Zt l).length):=o;clear ht
 have D:Hid (∀wx,Calls Tryz.prog 80 #[.string (za l),.func (.func 81) #[] #[]] wx fun e w'=>e=.returned (.int .i64 m)∧wx=w'):=fun wx=>by
  rw [o];exact vO l wx hl
 have A:Hid (∀wx,z7 wx→Calls Tryz.prog 82 #[.string (za (Zt l))] wx fun e w'=>e=.returned (.bool (Zy (Zt l)))∧wx=w'):=fun wx h=>vQ _ wx h
 clear o;have E:=(Below.refl w.heap.size w).alloc (Nat.le_refl _);obtain ⟨x,y⟩:∃x,x=Zt l:=⟨_,rfl⟩;rw [←y] at u A q;have z:Hid (x=Zt l):=y;clear y
 go_enter Tryz.func63,Tryz.ntmps63
 go_wp2_with fail
 refine (D.out _).mono ?_;rintro e w1 ⟨rfl,rfl⟩;go_wp2_with fail
 refine (A.out _ (B.out.alloc _)).mono ?_;rintro e w1 ⟨rfl,rfl⟩;cases hq:Zy x with
 | true =>
  have c:Hid (Z6 l=⟨5,x,0,m,0⟩):=by unfold Z6;rw [←z.out,if_pos hq,←q.out];rfl
  go_wp2
  refine bodyPost_ret (v:=zy ⟨5,x,0,m,0⟩) (by simp [results,Tryz.results63,go_sem,zy]) rfl ⟨by rw [c.out],?_⟩
  exact (Below.refl w.heap.size w).alloc (Nat.le_refl _) _
 | false =>
  by_cases h20:20<m
  ·have c:Hid (Z6 l=⟨0,[],0,0,5⟩):=by unfold Z6;rw [←z.out,if_neg (by rw [hq];simp),if_pos (by rw [←q.out];exact h20)];rfl
   go_wp2
   refine bodyPost_ret (v:=zy ⟨0,[],0,0,5⟩) (by simp [results,Tryz.results63,go_sem,zy]) rfl ⟨by rw [c.out],?_⟩
   exact (Below.refl w.heap.size w).alloc (Nat.le_refl _) _
  ·have c:Hid (Z6 l=⟨1,x,0,m,0⟩):=by unfold Z6;rw [←z.out,if_neg (by rw [hq];simp),if_neg (by rw [←q.out];exact h20),←q.out];rfl
   go_wp2
   refine bodyPost_ret (v:=zy ⟨1,x,0,m,0⟩) (by simp [results,Tryz.results63,go_sem,zy]) rfl ⟨by rw [c.out],?_⟩
   exact (Below.refl w.heap.size w).alloc (Nat.le_refl _) _
def valA (acc:Nat):List UInt8→Nat
 | []=>acc
 | c::r=>valA (acc*10+(c.toNat-48)) r
theorem XO:∀(r:List UInt8) (acc:Nat),acc≤valA acc r
 | [],_=>Nat.le_refl _
 | c::r,acc=>Nat.le_trans (by omega) (XO r (acc*10+(c.toNat-48)))
theorem xa (ds:List UInt8):∀(b:Nat),(∀c∈ds,zz c.toNat=true)→b<18446744073709551616 →
  Lib.parseUint10 b ds=if valA b ds<18446744073709551616 then .ok (valA b ds) else .range:=by
 induction ds with
 | nil =>
  intro b _ m;rw [show valA b []=b from rfl,if_pos m]
  rfl
 | cons c r ih =>
  intro b h m;have e:=h c (List.mem_cons_self ..)
  unfold zz at e
  rw [Bool.and_eq_true,decide_eq_true_eq,decide_eq_true_eq] at e;have o:=XO r (b*10+(c.toNat-48));rw [show valA b (c::r)=valA (b*10+(c.toNat-48)) r from rfl]
  unfold Lib.parseUint10
  rw [if_pos e]
  by_cases h1:1844674407370955162≤b
  ·rw [if_pos h1,if_neg (by omega)]
  ·rw [if_neg h1]
   by_cases h2:18446744073709551616≤b*10+(c.toNat-48)
   ·rw [if_pos h2,if_neg (by omega)]
   ·rw [if_neg h2]
    exact ih _ (fun d hd=>h d (List.mem_cons_of_mem _ hd)) (by omega)
theorem xA {ds:List UInt8} (h:∀c∈ds,zz c.toNat=true) (hne:ds≠[]) :
  Lib.atoiAll ds=if valA 0 ds<9223372036854775808 then .ok (valA 0 ds:Int) else .range:=by
 cases ds with
 | nil=>exact absurd rfl hne
 | cons c r =>
  have e:=h c (List.mem_cons_self ..)
  unfold zz at e
  rw [Bool.and_eq_true,decide_eq_true_eq,decide_eq_true_eq] at e;have o:¬ (c.toNat=43∨c.toNat=45):=by omega
  have m:¬ c.toNat=45:=by omega
  have b:Lib.parseMag (c::r)=if valA 0 (c::r)<18446744073709551616 then .ok (valA 0 (c::r)) else .range:=by
   unfold Lib.parseMag;rw [if_neg (by simp)];exact xa _ 0 h (by omega)
  generalize valA 0 (c::r)=v at b ⊢;have q:(if c.toNat=43∨c.toNat=45 then r else c::r)=c::r:=if_neg o
  unfold Lib.atoiAll
  simp only [q];rw [b]
  by_cases h3:v<18446744073709551616
  ·rw [if_pos h3]
   by_cases h4:v<9223372036854775808
   ·simp only
    rw [if_neg (by omega),if_neg (by omega),if_neg m,if_pos h4]
   ·simp only
    rw [if_pos ⟨m,by omega⟩,if_neg h4]
  ·rw [if_neg h3,if_neg (by omega)]
theorem XP {p:UInt8→Bool}:∀(l:List UInt8) (c:UInt8),c∈l.takeWhile p→p c=true
 | [],c,h=>by simp at h
 | x::l,c,h=>by
  by_cases hx:p x=true
  ·rw [List.takeWhile_cons_of_pos hx] at h
   rcases List.mem_cons.1 h with rfl | h
   ·exact hx
   ·exact XP l c h
  ·rw [List.takeWhile_cons_of_neg hx] at h
   simp at h
def digL (l:List UInt8):List UInt8:=l.takeWhile fun c=>zz c.toNat
def xB (l:List UInt8):TR:=if valA 0 (digL l)<9223372036854775808 then ⟨2,[],valA 0 (digL l),(digL l).length,0⟩ else ⟨0,[],0,0,5⟩
theorem Vz (l:List UInt8):(digL l).length≤l.length:=(List.takeWhile_sublist _).length_le
theorem vS (l:List UInt8):∀c∈digL l,zz c.toNat=true:=fun c hc=>XP (p:=fun c=>zz c.toNat) l c hc
theorem yV (l:List UInt8) (w:World) (hl:l.length≤140737488351232) (hne:digL l≠[]) (ht:z7 w) :
  Calls Tryz.prog 65 #[.string (za l)] w fun e w'=>e=.returned (zy (xB l))∧Below w.heap.size w w':=by
 have V:Hid (z7 w):=ht;have q:=Vz l;obtain ⟨m,y⟩:∃m,m=(digL l).length:=⟨_,rfl⟩;rw [←y] at q;have A:=fun wx=>Xl wx l m q
 rw [show l.take m=digL l by rw [y];exact xz _ l] at A
 have F:Hid (m=(digL l).length):=y;have U:m≤140737488351232:=by omega
 clear ht
 have W:Hid (∀wx,Calls Tryz.prog 80 #[.string (za l),.func (.func 64) #[] #[]] wx fun e w'=>e=.returned (.int .i64 m)∧wx=w'):=fun wx=>by
  rw [y];exact X2 l wx (by omega)
 have c:=xA (vS l) hne;obtain ⟨x,G⟩:∃x,x=digL l:=⟨_,rfl⟩;rw [←G] at A F c;obtain ⟨v,H⟩:∃v,v=valA 0 x:=⟨_,rfl⟩;rw [←H] at c;have T:Hid (x=digL l):=G;have R:Hid (v=valA 0 x):=H;have E:Hid (Lib.atoiAll x=if v<9223372036854775808 then .ok (v:Int) else .range):=c
 clear G H c y
 go_enter Tryz.func65,Tryz.ntmps65
 go_wp2_with fail
 refine (W.out _).mono ?_;rintro e w1 ⟨rfl,rfl⟩
 by_cases h63:v<9223372036854775808
 ·have D:=fun wx=>Tryz.strconv_Atoi_ok (za x) (by rw [zo,←F.out];omega) v (by show Lib.atoiAll x=_;rw [E.out,if_pos h63]) wx
  have J:Hid (xB l=⟨2,[],v,m,0⟩):=by unfold xB;rw [←T.out,←R.out,if_pos h63,←F.out];rfl
  go_wp2_with fail
  refine (D _).mono ?_;clear D;rintro e w1 ⟨rfl,u⟩
  have b:Below (w.heap.size+1) (w.alloc (Obj.cells #[Value.int IntKind.i64 0,Value.string ⟨#[]⟩,Value.int IntKind.i64 0,Value.int IntKind.i64 0,Value.int IntKind.i64 0] 103)) w1:=by
   rcases u with rfl | ⟨t,rfl⟩
   ·exact Below.refl _ _
   ·have B:=Lib.bytesWorld_below (w.alloc (Obj.cells #[Value.int IntKind.i64 0,Value.string ⟨#[]⟩,Value.int IntKind.i64 0,Value.int IntKind.i64 0,Value.int IntKind.i64 0] 103)) 5 t
    rw [World.size_alloc] at B;exact B
  clear u
  obtain ⟨h,K⟩:(∀o,w1.cell? ⟨w.heap.size,o,none⟩=(w.alloc (Obj.cells #[Value.int IntKind.i64 0,Value.string ⟨#[]⟩,Value.int IntKind.i64 0,Value.int IntKind.i64 0,Value.int IntKind.i64 0] 103)).cell? ⟨w.heap.size,o,none⟩)∧(∀o,w1.frozen? ⟨w.heap.size,o,none⟩=(w.alloc (Obj.cells #[Value.int IntKind.i64 0,Value.string ⟨#[]⟩,Value.int IntKind.i64 0,Value.int IntKind.i64 0,Value.int IntKind.i64 0] 103)).frozen? ⟨w.heap.size,o,none⟩) :=
   ⟨fun o=>b.cell (p:=⟨w.heap.size,o,none⟩) (by simp),fun o=>b.frozen (p:=⟨w.heap.size,o,none⟩) (by simp)⟩
  have I:Hid (Below w.heap.size w w1):=((Below.refl w.heap.size w).alloc (Nat.le_refl _) _).trans (b.mono (by omega))
  clear b;go_wp2
  refine bodyPost_ret (v:=zy ⟨2,[],v,m,0⟩) (by simp [results,Tryz.results65,go_sem,zy,h]) rfl ⟨by rw [J.out],?_⟩
  exact ((((I.out.setCell (p:=⟨w.heap.size,0,none⟩) (Nat.le_refl _) _).setCell (p:=⟨w.heap.size,1,none⟩) (Nat.le_refl _) _).setCell (p:=⟨w.heap.size,2,none⟩) (Nat.le_refl _) _).setCell (p:=⟨w.heap.size,3,none⟩) (Nat.le_refl _) _).setCell (p:=⟨w.heap.size,4,none⟩) (Nat.le_refl _) _
 ·obtain ⟨M,O,z⟩:=V.out.range
  have D:=Tryz.strconv_Atoi_range (za x) (by rw [zo,←F.out];omega) (by show Lib.atoiAll x=_;rw [E.out,if_neg h63]) (.iface M O) (w.alloc (Obj.cells #[Value.int IntKind.i64 0,Value.string ⟨#[]⟩,Value.int IntKind.i64 0,Value.int IntKind.i64 0,Value.int IntKind.i64 0] 103)) (Lib.cell?_alloc_some _ z) (.inr ⟨M,O,rfl⟩)
  have J:Hid (xB l=⟨0,[],0,0,5⟩):=by unfold xB;rw [←T.out,←R.out,if_neg h63];rfl
  go_wp2_with fail
  refine D.mono ?_;clear D;rintro e w1 ⟨X,rfl,-,-,b⟩;rw [World.size_alloc] at b
  obtain ⟨h,K⟩:(∀o,w1.cell? ⟨w.heap.size,o,none⟩=(w.alloc (Obj.cells #[Value.int IntKind.i64 0,Value.string ⟨#[]⟩,Value.int IntKind.i64 0,Value.int IntKind.i64 0,Value.int IntKind.i64 0] 103)).cell? ⟨w.heap.size,o,none⟩)∧(∀o,w1.frozen? ⟨w.heap.size,o,none⟩=(w.alloc (Obj.cells #[Value.int IntKind.i64 0,Value.string ⟨#[]⟩,Value.int IntKind.i64 0,Value.int IntKind.i64 0,Value.int IntKind.i64 0] 103)).frozen? ⟨w.heap.size,o,none⟩) :=
   ⟨fun o=>b.cell (p:=⟨w.heap.size,o,none⟩) (by simp),fun o=>b.frozen (p:=⟨w.heap.size,o,none⟩) (by simp)⟩
  have I:Hid (Below w.heap.size w w1):=((Below.refl w.heap.size w).alloc (Nat.le_refl _) _).trans (b.mono (by omega))
  clear b z;go_wp2
  refine bodyPost_ret (v:=zy ⟨0,[],0,0,5⟩) (by simp [results,Tryz.results65,go_sem,zy,h]) rfl ⟨by rw [J.out],?_⟩
  exact ((((I.out.setCell (p:=⟨w.heap.size,0,none⟩) (Nat.le_refl _) _).setCell (p:=⟨w.heap.size,1,none⟩) (Nat.le_refl _) _).setCell (p:=⟨w.heap.size,2,none⟩) (Nat.le_refl _) _).setCell (p:=⟨w.heap.size,3,none⟩) (Nat.le_refl _) _).setCell (p:=⟨w.heap.size,4,none⟩) (Nat.le_refl _) _
def longer (l best x:List UInt8):List UInt8:=if best.length<x.length∧Lib.hasPrefix l x=true then x else best
def zW (l:List UInt8) (n:Nat):List UInt8:=(signsL.take n).foldl (longer l) []
def yL (l:List UInt8):TR:=if zW l 25=[] then ⟨0,[],0,0,6⟩ else ⟨4,zW l 25,0,(zW l 25).length,0⟩
theorem Xm (l:List UInt8) (n:Nat) (h:n<signsL.length):zW l (n+1)=longer l (zW l n) signsL[n]:=by
 unfold zW;rw [List.take_succ_eq_append_getElem h,List.foldl_append];rfl
theorem X5 (l:List UInt8) (n:Nat):(zW l n).length≤2:=by
 have m:∀(c:List (List UInt8)) (b:List UInt8),(∀x∈c,x.length≤2)→b.length≤2→(c.foldl (longer l) b).length≤2:=by
  intro c
  induction c with
  | nil=>intro b _ h;exact h
  | cons x c ih =>
   intro b e h;refine ih _ (fun y hy=>e y (List.mem_cons_of_mem _ hy)) ?_
   unfold longer
   split
   ·exact e x (List.mem_cons_self ..)
   ·exact h
 exact m _ _ (fun x e=>by
  have:∀x∈signsL,x.length≤2:=by decide
  exact this x (List.mem_of_mem_take e)) (by simp)
def yv:List Value:=signsL.map fun x=>.string (za x)
def signsV:Value:=.agg yv.toArray
theorem xC {w:World} (ht:z7 w):w.rangeAt 2 0 yv:=fun j v hv=>by
 unfold yv at hv
 rw [List.getElem?_map] at hv;rcases Nat.lt_or_ge j signsL.length with h | h
 ·rw [List.getElem?_eq_getElem h] at hv
  simp only [Option.map_some,Option.some.injEq] at hv;rw [Nat.zero_add,ht.signs j h,hv]
 ·rw [List.getElem?_eq_none h] at hv;cases hv
theorem Xn:(Tryz.prog.info? 140).map (·.size)=some yv.length:=by kernel_rfl
theorem YC (l:List UInt8) (w:World) (ht:z7 w) :
  Calls Tryz.prog 67 #[.string (za l)] w fun e w'=>e=.returned (zy (yL l))∧Below w.heap.size w w':=by
 have H:Hid (z7 w):=ht;clear ht
 go_enter Tryz.func67,Tryz.ntmps67
 go_wp2_with (refine wpList_load_mid rfl 140 _ rfl 2 0 rfl yv _ (xC (H.out.alloc _)) Tryz.underlying140 rfl Xn ?_)
 have I:Hid (∀(wx:World) (i:Nat) (h:i<25),(Instr.index 140 signsV (.int .i64 (i:Int))).run Tryz.prog wx=.ok (.string (za (signsL[i]'h))) wx):=fun wx i h=>X4 wx i h
 rw [show Value.agg yv.toArray=signsV from rfl]
 generalize signsV=A at *
 go_loop [5,9] (fun vb v=>∃i:Nat,i≤25∧v=.int .i64 i∧vb=.string (za (zW l i))) (fun _ v=>25-(intOf v).toNat)
 case atStart=>exact ⟨0,Nat.zero_le _,rfl,rfl⟩
 case round =>
  obtain ⟨i,M,rfl,rfl⟩:=hrel;have G:=X5 l i;obtain ⟨b,E⟩:∃b,b=zW l i:=⟨_,rfl⟩;rw [←E] at G ⊢;have z:Hid (b=zW l i):=E;clear E
  by_cases hlt:i<25
  ·have o:=fun wx=>I.out wx i hlt
   obtain ⟨x,q⟩:∃x,x=signsL[i]'hlt:=⟨_,rfl⟩;rw [←q] at o
   have J:x.length≤2:=by
    have:∀x∈signsL,x.length≤2:=by decide
    rw [q];exact this _ (List.getElem_mem _)
   have F:Hid (zW l (i+1)=longer l b x):=show zW l (i+1)=longer l b x by rw [Xm l i hlt,z.out,q]
   have K:(za x).size=x.length:=rfl;have B:(za b).size=b.length:=rfl;clear q
   by_cases hlen:b.length<x.length
   ·have u:=fun wx=>Tryz.strings_HasPrefix (za l) (za x) wx
    cases hp:Lib.hasPrefix l x with
    | true =>
     have m:Lib.hasPrefix (za l).data.toList (za x).data.toList=true:=hp;rw [m] at u;have c:Hid (zW l (i+1)=x):=show zW l (i+1)=x by rw [F.out];unfold longer;rw [if_pos ⟨hlen,hp⟩]
     clear m;go_wp2_with (go_at_call 85;refine (u _).mono ?_;rintro e w1 ⟨rfl,rfl⟩)
     refine ⟨⟨i+1,by omega,by go_num,by rw [c.out]⟩,by simp [intOf];omega⟩
    | false =>
     have m:Lib.hasPrefix (za l).data.toList (za x).data.toList=false:=hp;rw [m] at u;have c:Hid (zW l (i+1)=b):=show zW l (i+1)=b by rw [F.out];unfold longer;rw [if_neg (fun h=>by rw [hp] at h;exact absurd h.2 (by decide))]
     clear m;go_wp2_with (go_at_call 85;refine (u _).mono ?_;rintro e w1 ⟨rfl,rfl⟩)
     refine ⟨⟨i+1,by omega,by go_num,by rw [c.out]⟩,by simp [intOf];omega⟩
   ·have c:Hid (zW l (i+1)=b):=show zW l (i+1)=b by rw [F.out];unfold longer;rw [if_neg (fun h=>hlen h.1)]
    go_wp2
    refine ⟨⟨i+1,by omega,by go_num,by rw [c.out]⟩,by simp [intOf];omega⟩
  ·obtain rfl:i=25:=by omega
   have B:(za b).size=b.length:=rfl;cases b with
   | nil =>
    have D:Hid (yL l=⟨0,[],0,0,6⟩):=by unfold yL;rw [←z.out,if_pos rfl];rfl
    go_wp2
    refine bodyPost_ret (v:=zy ⟨0,[],0,0,6⟩) (by simp [results,Tryz.results67,go_sem,zy]) rfl ⟨by rw [D.out],?_⟩
    exact (Below.refl w.heap.size w).alloc (Nat.le_refl _) _
   | cons y ys =>
    have D:Hid (yL l=⟨4,y::ys,0,(y::ys).length,0⟩):=by unfold yL;rw [←z.out,if_neg (by simp)];rfl
    go_wp2
    refine bodyPost_ret (v:=zy ⟨4,y::ys,0,(y::ys).length,0⟩) (by simp [results,Tryz.results67,go_sem,zy]) rfl ⟨by rw [D.out],?_⟩
    exact (Below.refl w.heap.size w).alloc (Nat.le_refl _) _
def y5:List UInt8→Nat × Nat
 | []=>(0,0)
 | x::r=>if x.toNat<32∨126<x.toNat then (0,0) else if x.toNat≠92 then (x.toNat,1) else
  match r with
  | []=>(0,0)
  | y::_=>if y.toNat=92 then (92,2) else if y.toNat=34 then (34,2) else if y.toNat=110 then (10,2) else (0,0)
theorem xb (w:World) (l:List UInt8) (i:Nat) (h:i<l.length):(Instr.index 9 (.string (za l)) (.int .i64 (i:Int))).run Tryz.prog w=.ok (.int .u8 ((l[i]).toNat:Int)) w:=by
 rw [run_index_string (P:=Tryz.prog) (w:=w) 9 (za l) .i64 _ Tryz.underlying9,dif_pos ⟨by omega,by rw [zo];omega⟩]
 simp only [Int.toNat_natCast]
 rfl
theorem YQ {a:Nat × Nat} {c k:Nat} (h:a=(c,k)):(Ending.returned (.tuple #[.int .u8 (c:Int),.int .i64 (k:Int)]):Ending)=.returned (.tuple #[.int .u8 (a.1:Int),.int .i64 (a.2:Int)]):=by rw [h]
theorem XQ {x:UInt8} {r:List UInt8} (h:x.toNat<32∨126<x.toNat):y5 (x::r)=(0,0):=by
 show (if _ then _ else _)=_;rw [if_pos h]
theorem XR {x:UInt8} {r:List UInt8} (h:¬ (x.toNat<32∨126<x.toNat)) (h2:x.toNat≠92):y5 (x::r)=(x.toNat,1):=by
 show (if _ then _ else _)=_;rw [if_neg h,if_pos h2]
theorem XS {x:UInt8} (h:¬ (x.toNat<32∨126<x.toNat)) (h2:x.toNat=92):y5 [x]=(0,0):=by
 show (if _ then _ else _)=_;rw [if_neg h,if_neg (by omega)]
def ui (m:Nat):Nat × Nat:=if m=92 then (92,2) else if m=34 then (34,2) else if m=110 then (10,2) else (0,0)
theorem XT {x y:UInt8} {t:List UInt8} (h:¬ (x.toNat<32∨126<x.toNat)) (h2:x.toNat=92):y5 (x::y::t)=ui y.toNat:=by
 show (if _ then _ else _)=_;rw [if_neg h,if_neg (by omega)];rfl
def yW:List Nat:=[92,34,110]
def YD:List Nat:=[92,34,10]
theorem V8 {m i:Nat} (hi:i<3) (h:∀j (hj:j<3),j<i→(yW[j]'hj)≠m) (he:(yW[i]'hi)=m):ui m=((YD[i]'hi),2):=by
 have b:i=0∨i=1∨i=2:=by omega
 rcases b with rfl | rfl | rfl
 ·rw [←he];rfl
 ·rw [←he];rfl
 ·rw [←he];rfl
theorem VA {m:Nat} (h:∀j (hj:j<3),(yW[j]'hj)≠m):ui m=(0,0):=by
 have c:92≠m:=h 0 (by decide)
 have b:34≠m:=h 1 (by decide)
 have e:110≠m:=h 2 (by decide)
 unfold ui
 rw [if_neg (by omega),if_neg (by omega),if_neg (by omega)]
theorem xD (w:World) (i:Nat) (h:i<3):(Instr.index 151 (.agg #[.int .u8 92,.int .u8 92,.int .u8 34,.int .u8 34,.int .u8 10,.int .u8 110]) (.int .i64 (i:Int))).run Tryz.prog w=.ok (.agg #[.int .u8 ((YD[i]'h:Nat):Int),.int .u8 ((yW[i]'h:Nat):Int)]) w:=by
 have b:i=0∨i=1∨i=2:=by omega
 rcases b with rfl | rfl | rfl
 all_goals rfl
theorem xc (x:UInt8) (r:List UInt8) (w:World) (hl:r.length≤9223372036854775000) (ht:z7 w) :
  Calls Tryz.prog 84 #[.string (za (x::r))] w fun e w'=>e=.returned (.tuple #[.int .u8 (y5 (x::r)).1,.int .i64 (y5 (x::r)).2])∧Below w.heap.size w w':=by
 have O:=fun wx=>xb wx (x::r) 0 (by simp)
 rw [show ((0:Nat):Int)=0 from rfl,show (x::r)[0]=x from rfl] at O
 have o:(za (x::r)).size=r.length+1:=rfl;obtain ⟨n,c⟩:∃n,n=x.toNat:=⟨_,rfl⟩;have I:n<256:=by rw [c];exact UInt8.toNat_lt x
 rw [←c] at O;obtain ⟨S,D⟩:∃S,S=za (x::r):=⟨_,rfl⟩;rw [←D] at O o ⊢;have U:=ht.escs 0 (by decide)
 have T:=ht.escs 1 (by decide)
 have Z:=ht.escs 2 (by decide)
 have V:=ht.escs 3 (by decide)
 have R:=ht.escs 4 (by decide)
 have X:=ht.escs 5 (by decide)
 simp only [List.getElem_cons_zero,List.getElem_cons_succ] at U T Z V R X;clear ht
 by_cases hbad:n<32∨126<n
 ·have q:Hid (y5 (x::r)=(0,0)):=XQ (by rw [←c];exact hbad)
  clear D c;rcases hbad with A | A
  ·go_enter Tryz.func84,Tryz.ntmps84
   go_wp2
   go_ret2
   exact ⟨YQ q.out,Below.refl _ _⟩
  ·go_enter Tryz.func84,Tryz.ntmps84
   go_wp2
   go_ret2
   exact ⟨YQ q.out,Below.refl _ _⟩
 ·by_cases h92:n=92
  ·cases r with
   | nil =>
    have q:Hid (y5 [x]=(0,0)):=XS (by rw [←c];exact hbad) (by rw [←c];exact h92)
    have aa:S.size=1:=o;clear D c hbad o;subst h92
    go_enter Tryz.func84,Tryz.ntmps84
    go_wp2
    go_ret2
    exact ⟨YQ q.out,Below.refl _ _⟩
   | cons y t =>
    have h1:=fun wx=>xb wx (x::y::t) 1 (by simp)
    rw [show ((1:Nat):Int)=1 from rfl,show (x::y::t)[1]=y from rfl] at h1
    obtain ⟨m,H⟩:∃m,m=y.toNat:=⟨_,rfl⟩;have M:m<256:=by rw [H];exact UInt8.toNat_lt y
    rw [←H,←D] at h1;have E:Hid (y5 (x::y::t)=ui m):=show _=_ by rw [H];exact XT (by rw [←c];exact hbad) (by rw [←c];exact h92)
    have W:S.size=t.length+2:=o;have Y:((t.length:Int)+2==1)=false:=by rw [beq_eq_false_iff_ne];omega
    have ab:t.length+1≤9223372036854775000:=by simpa using hl
    clear D c hbad o H hl;subst h92
    go_enter Tryz.func84,Tryz.ntmps84
    go_wp2
    clear U T Z V R X
    go_loopw [26] (fun v wr=>∃i:Nat,i≤3∧v=.int .i64 i∧(∀j (hj:j<3),j<i→(yW[j]'hj)≠m)∧Below w.heap.size w wr) (fun v _=>3-(intOf v).toNat)
    case atStart=>exact ⟨0,Nat.zero_le _,rfl,fun j _ h=>by omega,Below.refl _ _⟩
    case round =>
     obtain ⟨i,hi,rfl,z,B⟩:=hrel;have J:Hid (∀j (hj:j<3),j<i→(yW[j]'hj)≠m):=z;have K:Hid (Below w.heap.size w wr):=B;have u:=B.size;clear z B
     by_cases hlt:i<3
     ·have F:=fun wx=>xD wx i hlt
      obtain ⟨a,G⟩:∃a,a=YD[i]'hlt:=⟨_,rfl⟩;obtain ⟨b,A⟩:∃b,b=yW[i]'hlt:=⟨_,rfl⟩;rw [←G,←A] at F
      by_cases he:b=m
      ·have q:Hid (y5 (x::y::t)=(a,2)):=show _=_ by rw [E.out,G];exact V8 hlt J.out (by rw [←A];exact he)
       subst he;clear G A;go_wp2
       go_quiet (fail)
       go_wp2
       go_ret2
       refine ⟨YQ q.out,?_⟩;exact (K.out.alloc u _).trans ⟨rfl,rfl,rfl,Nat.le_refl _,fun _ _=>rfl⟩
      ·have ad:((b:Int)==(m:Int))=false:=by rw [beq_eq_false_iff_ne];omega
       have HE:Hid ((yW[i]'hlt)≠m):=show (yW[i]'hlt)≠m by rw [←A];exact he
       clear G A he;go_wp2
       go_quiet (fail)
       go_wp2
       refine ⟨⟨i+1,by omega,by go_num,fun j hj hji=>?_,(K.out.alloc u _).trans ⟨rfl,rfl,rfl,Nat.le_refl _,fun _ _=>rfl⟩⟩,by simp [intOf];omega⟩
       by_cases h:j<i
       ·exact J.out j hj h
       ·obtain rfl:j=i:=by omega
        exact HE.out
     ·obtain rfl:i=3:=by omega
      have q:Hid (y5 (x::y::t)=(0,0)):=show _=_ by rw [E.out];exact VA (fun j hj=>J.out j hj hj)
      go_wp2
      go_ret2
      exact ⟨YQ q.out,K.out⟩
  ·have q:Hid (y5 (x::r)=(n,1)):=show y5 (x::r)=(n,1) by rw [c];exact XR (by rw [←c];exact hbad) (by rw [←c];exact h92)
   have af:32≤n:=by omega
   have ae:n≤126:=by omega
   clear D c hbad
   go_enter Tryz.func84,Tryz.ntmps84
   go_wp2
   go_ret2
   exact ⟨YQ q.out,Below.refl _ _⟩
def Yd:Nat→List UInt8→Nat→List UInt8→TR
 | 0,_,_,_=>⟨0,[],0,0,6⟩
 | _+1,_,_,[]=>⟨0,[],0,0,6⟩
 | f+1,meant,at0,x::r=>if x.toNat=34 then ⟨3,meant,0,at0+1,0⟩ else if (y5 (x::r)).2=0 then ⟨0,[],0,0,6⟩ else if meant.length=255 then ⟨0,[],0,0,5⟩
  else Yd f (meant++[(y5 (x::r)).1.toUInt8]) (at0+(y5 (x::r)).2) ((x::r).drop (y5 (x::r)).2)
def ZE (l:List UInt8):TR:=Yd l.length [] 1 (l.drop 1)
theorem V9 (l:List UInt8):(y5 l).2≤l.length∧(y5 l).1<256:=by
 cases l with
 | nil=>exact ⟨Nat.le_refl _,by decide⟩
 | cons x r =>
  by_cases h:x.toNat<32∨126<x.toNat
  ·rw [XQ h];simp
  ·by_cases h2:x.toNat=92
   ·cases r with
    | nil=>rw [XS h h2];simp
    | cons y t =>
     rw [XT h h2]
     unfold ui
     split
     ·simp
     ·split
      ·simp
      ·split <;> simp
   ·rw [XR h h2]
    have:=UInt8.toNat_lt x
    simp;omega
abbrev Zq:Obj:=Obj.cells #[Value.int IntKind.i64 0,Value.string ⟨#[]⟩,Value.int IntKind.i64 0,Value.int IntKind.i64 0,Value.int IntKind.i64 0] 103
theorem ZF {w w1:World} (hb:Below (w.heap.size+1) (w.alloc Zq) w1) :
  (∀o,w1.cell? ⟨w.heap.size,o,none⟩=(w.alloc Zq).cell? ⟨w.heap.size,o,none⟩)∧(∀o,w1.frozen? ⟨w.heap.size,o,none⟩=(w.alloc Zq).frozen? ⟨w.heap.size,o,none⟩) :=
 ⟨fun o=>hb.cell (p:=⟨w.heap.size,o,none⟩) (by simp),fun o=>hb.frozen (p:=⟨w.heap.size,o,none⟩) (by simp)⟩
theorem zI {w w1:World} (h:Below w.heap.size w w1) (a b c d e:Value) :
  Below w.heap.size w (((((w1.setCell ⟨w.heap.size,0,none⟩ a).setCell ⟨w.heap.size,1,none⟩ b).setCell ⟨w.heap.size,2,none⟩ c).setCell ⟨w.heap.size,3,none⟩ d).setCell ⟨w.heap.size,4,none⟩ e) :=
 ((((h.setCell (p:=⟨w.heap.size,0,none⟩) (Nat.le_refl _) _).setCell (p:=⟨w.heap.size,1,none⟩) (Nat.le_refl _) _).setCell (p:=⟨w.heap.size,2,none⟩) (Nat.le_refl _) _).setCell (p:=⟨w.heap.size,3,none⟩) (Nat.le_refl _) _).setCell (p:=⟨w.heap.size,4,none⟩) (Nat.le_refl _) _
theorem yw {w w':World} {B C e n:Nat} {v:Value} {xs:List Value} (h:w.ownsRow B e 1 v n xs) (hb:Below C w w') (hC:w.heap.size≤C):w'.ownsRow B e 1 v n xs :=
 h.kept (row:=none) ⟨hb.os,hb.tape,hb.output,hb.size,fun k hk _=>hb.block k (by omega)⟩ (by cases h':v.ownBlock <;> simp)
theorem YE (l:List UInt8) (w:World) (hl:l.length≤140737488351232) (hl1:1≤l.length) (ht:z7 w) :
  Calls Tryz.prog 66 #[.string (za l)] w fun e w'=>e=.returned (zy (ZE l))∧Below w.heap.size w w':=by
 have HT:Hid (z7 w):=ht;have ay:(za l).size=l.length:=rfl;have hA:Below w.heap.size w (w.alloc Zq):=(Below.refl w.heap.size w).alloc (Nat.le_refl _) _;have HA:Hid (Below w.heap.size w (w.alloc Zq)):=hA;clear ht hA
 go_enter Tryz.func66,Tryz.ntmps66
 go_wp2
 go_loopw [5,6] (fun vm va wr=>∃(f at0:Nat) (b:List UInt8),va=.int .i64 at0∧at0≤l.length∧l.length≤at0+f∧b.length≤255∧ZE l=Yd f b at0 (l.drop at0) ∧
   wr.ownsRow (w.heap.size+1) 5 1 vm b.length (Lib.byteCells b)∧Below (w.heap.size+1) (w.alloc Zq) wr) (fun _ a _=>l.length-(intOf a).toNat)
 case atStart=>exact ⟨l.length,1,[],rfl,hl1,by omega,by simp,rfl,World.ownsRow_nil _ _ _ _,Below.refl _ _⟩
 case round =>
  obtain ⟨f,at0,b,rfl,aB,az,an,aa,M,F⟩:=hrel;have ae:Hid (ZE l=Yd f b at0 (l.drop at0)):=aa;have ah:Hid (Below (w.heap.size+1) (w.alloc Zq) wr):=F;have HB:Hid (Below w.heap.size w wr):=HA.out.trans (F.mono (by omega))
  have K:=F.size;rw [World.size_alloc] at K;obtain ⟨u,aj⟩:=ZF F;have HO:Hid (wr.ownsRow (w.heap.size+1) 5 1 u5 b.length (Lib.byteCells b)):=M;clear aa F M
  by_cases hlt:at0<l.length
  ·obtain ⟨x,r,y⟩:∃x r,l.drop at0=x::r:=⟨l[at0],l.drop (at0+1),List.drop_eq_getElem_cons hlt⟩
   have Y:l[at0]=x:=by
    have h:=List.drop_eq_getElem_cons hlt;rw [y] at h;exact (List.cons.inj h).1.symm
   have O:=fun wx=>xb wx l at0 hlt
   rw [Y] at O;obtain ⟨n,hn⟩:∃n,n=x.toNat:=⟨_,rfl⟩;rw [←hn] at O;have ak:n<256:=by rw [hn];exact UInt8.toNat_lt x
   obtain ⟨X,rfl⟩:∃X,f=X+1:=⟨f-1,by omega⟩
   have af:Hid (ZE l=if n=34 then ⟨3,b,0,at0+1,0⟩ else if (y5 (x::r)).2=0 then ⟨0,[],0,0,6⟩ else if b.length=255 then ⟨0,[],0,0,5⟩ else Yd X (b++[(y5 (x::r)).1.toUInt8]) (at0+(y5 (x::r)).2) ((x::r).drop (y5 (x::r)).2)):=show _=_ by
    rw [ae.out,y,hn];rfl
   have am:=fun wx=>vN wx l at0 (by omega)
   rw [y] at am;have ai:(x::r).length=l.length-at0:=by rw [←y,List.length_drop]
   have al:Hid (l.drop at0=x::r):=y;clear Y hn y
   by_cases h34:n=34
   ·have H:Hid (ZE l=⟨3,b,0,at0+1,0⟩):=show _=_ by rw [af.out,if_pos h34]
    subst h34;obtain ⟨o,B,rfl,z,-,-,-⟩:=Zs HO.out;have aA:=ZC wr o b B z;clear z;go_wp2
    refine bodyPost_ret (v:=zy ⟨3,b,0,at0+1,0⟩) (by simp [results,Tryz.results66,go_sem,zy,u]) rfl ⟨by rw [H.out],?_⟩
    exact zI HB.out _ _ _ _ _
   ·have au:((n:Int)==34)=false:=by rw [beq_eq_false_iff_ne];omega
    have E:=V9 (x::r);have cb:=xc x r wr (by simp at ai;omega) (HT.out.below HB.out (Nat.le_refl _))
    obtain ⟨c,G,R⟩:∃c G,y5 (x::r)=(c,G):=⟨_,_,rfl⟩;rw [R] at cb E;simp only at E
    have T:Hid (ZE l=if G=0 then ⟨0,[],0,0,6⟩ else if b.length=255 then ⟨0,[],0,0,5⟩ else Yd X (b++[c.toUInt8]) (at0+G) ((x::r).drop G)):=show _=_ by
     rw [af.out,if_neg h34,R]
    clear R h34;go_wp2_with fail
    refine cb.mono ?_;clear cb u aj;rintro e w2 ⟨rfl,J⟩;have aw:=J.size;have I:Below (w.heap.size+1) (w.alloc Zq) w2:=ah.out.trans (J.mono K);obtain ⟨u,aj⟩:=ZF I;have aq:Hid (Below (w.heap.size+1) (w.alloc Zq) w2):=I;have ag:Hid (Below w.heap.size w w2):=HA.out.trans (I.mono (by omega))
    have V:Hid (w2.ownsRow (w.heap.size+1) 5 1 u5 b.length (Lib.byteCells b)):=yw HO.out J (Nat.le_refl _);clear J I HO ah
    by_cases hs0:G=0
    ·have H:Hid (ZE l=⟨0,[],0,0,6⟩):=show _=_ by rw [T.out,if_pos hs0]
     subst hs0;go_wp2
     refine bodyPost_ret (v:=zy ⟨0,[],0,0,6⟩) (by simp [results,Tryz.results66,go_sem,zy,u]) rfl ⟨by rw [H.out],?_⟩
     exact zI ag.out _ _ _ _ _
    ·have ax:((G:Int)==0)=false:=by rw [beq_eq_false_iff_ne];omega
     obtain ⟨o,B,rfl,-,-,-,-⟩:=Zs V.out;obtain ⟨W,m⟩:∃W,W=b.length:=⟨_,rfl⟩;have ab:Hid (W=b.length):=m;rw [←m]
     by_cases h255:W=255
     ·have H:Hid (ZE l=⟨0,[],0,0,5⟩):=show _=_ by rw [T.out,if_neg hs0,if_pos (by rw [←m];exact h255)]
      clear m;subst h255;go_wp2
      refine bodyPost_ret (v:=zy ⟨0,[],0,0,5⟩) (by simp [results,Tryz.results66,go_sem,zy,u]) rfl ⟨by rw [H.out],?_⟩
      exact zI ag.out _ _ _ _ _
     ·have ao:((W:Int)==255)=false:=by rw [beq_eq_false_iff_ne];omega
      have H:Hid (ZE l=Yd X (b++[c.toUInt8]) (at0+G) (l.drop (at0+G))):=show _=_ by
       rw [T.out,if_neg hs0,if_neg (by rw [←m];exact h255),←al.out,List.drop_drop]
      have Z:Hid (w2.ownsRow (w.heap.size+1) 5 1 (.slice o W B) b.length (Lib.byteCells b)):=by rw [m];exact V.out
      have U:=E.2;have ad:=E.1;rw [ai] at ad;have av:b.length≤255:=an;clear m V E
      go_wp2_with (at_builtin;refine Zf rfl _ _ rfl (w.heap.size+1) _ b rfl (Z.out.alloc _) _ [c.toUInt8] rfl (ZS U (by simp)) (by simp;omega) (by simp;omega) ?_)
      intro v3 w3 D A;have ar:Hid (Below (w.heap.size+1) (w.alloc Zq) w3):=(aq.out.alloc (by omega) _).grown A (by simp;omega) (fun q hq=>(Z.out.lt q hq).1)
      have ap:Hid (w3.ownsRow (w.heap.size+1) 5 1 v3 (b++[c.toUInt8]).length (Lib.byteCells (b++[c.toUInt8]))):=by
       rw [show (b++[c.toUInt8]).length=b.length+1 by simp];exact D
      clear A D;go_wp2
      refine ⟨⟨X,at0+G,b++[c.toUInt8],by go_num,by omega,by omega,?_,H.out,ap.out,ar.out⟩,by simp [intOf];omega⟩
      rw [List.length_append,List.length_singleton,←ab.out]
      have:=ab.out
      omega
  ·obtain rfl:at0=l.length:=by omega
   have H:Hid (ZE l=⟨0,[],0,0,6⟩):=show _=_ by
    rw [ae.out,List.drop_length];cases f <;> rfl
   go_wp2
   refine bodyPost_ret (v:=zy ⟨0,[],0,0,6⟩) (by simp [results,Tryz.results66,go_sem,zy,u]) rfl ⟨by rw [H.out],?_⟩
   exact zI HB.out _ _ _ _ _
def Z8 (l:List UInt8):TR :=
 match l with
 | []=>⟨0,[],0,0,0⟩
 | x::_=>if ZN x.toNat=true then Z6 l else if zz x.toNat=true then xB l else if x.toNat=34 then ZE l else yL l
theorem VB {x:UInt8} {r:List UInt8} (h:zz x.toNat=true):digL (x::r)≠[]:=by
 unfold digL;simp [h]
theorem X6 (l:List UInt8) (w:World) (hl:l.length≤140737488351232) (ht:z7 w) :
  Calls Tryz.prog 53 #[.string (za l)] w fun e w'=>e=.returned (zy (Z8 l))∧Below w.heap.size w w':=by
 have I:Below w.heap.size w (w.alloc Zq):=(Below.refl w.heap.size w).alloc (Nat.le_refl _) _;have F:Hid (Below w.heap.size w (w.alloc Zq)):=I;have H:Hid (z7 (w.alloc Zq)):=ht.alloc _;clear ht I;cases l with
 | nil =>
  go_enter Tryz.func53,Tryz.ntmps53
  go_wp2
  refine bodyPost_ret (v:=zy ⟨0,[],0,0,0⟩) (by simp [results,Tryz.results53,go_sem,zy]) rfl ⟨rfl,?_⟩
  exact F.out
 | cons x r =>
  have A:=fun wx=>xb wx (x::r) 0 (by simp)
  rw [show ((0:Nat):Int)=0 from rfl,show (x::r)[0]=x from rfl] at A
  obtain ⟨n,G⟩:∃n,n=x.toNat:=⟨_,rfl⟩;rw [←G] at A;have u:n<256:=by rw [G];exact UInt8.toNat_lt x
  have z:Hid (Z8 (x::r)=if ZN n=true then Z6 (x::r) else if zz n=true then xB (x::r) else if n=34 then ZE (x::r) else yL (x::r)):=show _=_ by rw [G];rfl
  have U:Hid (zz n=true→digL (x::r)≠[]):=fun h=>VB (by rw [←G];exact h)
  have O:¬ (x::r)=[]:=by simp
  clear G
  go_enter Tryz.func53,Tryz.ntmps53
  have T:(x::r).length≤140737488351232:=hl;have y:Hid (∀(R:TR) (w1:World),Below (w.alloc Zq).heap.size (w.alloc Zq) w1→Below (w.heap.size+1) (w.alloc Zq) w1):=fun R w1 h=>by rw [World.size_alloc] at h;exact h
  have M:=Zk n u (w.alloc Zq);go_wp2_with fail
  refine M.mono ?_;clear M;rintro e w1 ⟨rfl,rfl⟩;cases h1:ZN n with
  | true =>
   obtain ⟨R,q⟩:∃R,R=Z6 (x::r):=⟨_,rfl⟩;have m:=YB (x::r) (w.alloc Zq) (by omega) H.out
   rw [←q] at m;have D:Hid (Z8 (x::r)=R):=show _=_ by rw [z.out,if_pos h1,q]
   unfold zy at m
   clear q;go_wp2_with fail
   refine m.mono ?_;clear m;rintro e w1 ⟨rfl,c⟩;have b:=y.out R w1 c;obtain ⟨o,E⟩:=ZF b;have B:Hid (Below w.heap.size w w1):=F.out.trans (b.mono (by omega))
   clear c b;go_wp2
   refine bodyPost_ret (v:=zy R) (by simp [results,Tryz.results53,go_sem,zy,o]) rfl ⟨by rw [D.out],?_⟩
   exact zI B.out _ _ _ _ _
  | false =>
   have K:=ZT n u (w.alloc Zq);go_wp2_with fail
   refine K.mono ?_;clear K;rintro e w1 ⟨rfl,rfl⟩;cases h2:zz n with
   | true =>
    obtain ⟨R,q⟩:∃R,R=xB (x::r):=⟨_,rfl⟩;have m:=yV (x::r) (w.alloc Zq) (by omega) (U.out h2) H.out
    rw [←q] at m;have D:Hid (Z8 (x::r)=R):=show _=_ by rw [z.out,if_neg (by rw [h1];simp),if_pos h2,q]
    unfold zy at m
    clear q;go_wp2_with fail
    refine m.mono ?_;clear m;rintro e w1 ⟨rfl,c⟩;have b:=y.out R w1 c;obtain ⟨o,E⟩:=ZF b;have B:Hid (Below w.heap.size w w1):=F.out.trans (b.mono (by omega))
    clear c b;go_wp2
    refine bodyPost_ret (v:=zy R) (by simp [results,Tryz.results53,go_sem,zy,o]) rfl ⟨by rw [D.out],?_⟩
    exact zI B.out _ _ _ _ _
   | false =>
    by_cases h34:n=34
    ·obtain ⟨R,q⟩:∃R,R=ZE (x::r):=⟨_,rfl⟩
     have m:=YE (x::r) (w.alloc Zq) (by omega) (by simp) H.out
     rw [←q] at m;have D:Hid (Z8 (x::r)=R):=show _=_ by rw [z.out,if_neg (by rw [h1];simp),if_neg (by rw [h2];simp),if_pos h34,q]
     subst h34
     unfold zy at m
     clear q;go_wp2_with fail
     refine m.mono ?_;clear m;rintro e w1 ⟨rfl,c⟩;have b:=y.out R w1 c;obtain ⟨o,E⟩:=ZF b;have B:Hid (Below w.heap.size w w1):=F.out.trans (b.mono (by omega))
     clear c b;go_wp2
     refine bodyPost_ret (v:=zy R) (by simp [results,Tryz.results53,go_sem,zy,o]) rfl ⟨by rw [D.out],?_⟩
     exact zI B.out _ _ _ _ _
    ·obtain ⟨R,q⟩:∃R,R=yL (x::r):=⟨_,rfl⟩
     have J:((n:Int)==34)=false:=by rw [beq_eq_false_iff_ne];omega
     have m:=YC (x::r) (w.alloc Zq) H.out;rw [←q] at m;have D:Hid (Z8 (x::r)=R):=show _=_ by rw [z.out,if_neg (by rw [h1];simp),if_neg (by rw [h2];simp),if_neg h34,q]
     unfold zy at m
     clear q;go_wp2_with fail
     refine m.mono ?_;clear m;rintro e w1 ⟨rfl,c⟩;have b:=y.out R w1 c;obtain ⟨o,E⟩:=ZF b;have B:Hid (Below w.heap.size w w1):=F.out.trans (b.mono (by omega))
     clear c b;go_wp2
     refine bodyPost_ret (v:=zy R) (by simp [results,Tryz.results53,go_sem,zy,o]) rfl ⟨by rw [D.out],?_⟩
     exact zI B.out _ _ _ _ _
end Go.Proofs.YtbjndgachcdbcaaGreatDoor

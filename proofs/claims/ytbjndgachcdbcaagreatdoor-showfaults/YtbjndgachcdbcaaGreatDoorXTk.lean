import Derived.Test.YtbjndgachcdbcaaGreatDoorMC1
import Derived.Test.YtbjndgachcdbcaaGreatDoorWAll
import Derived.Deep.MidRow
import Derived.LoopN
namespace Go.Proofs.YtbjndgachcdbcaaGreatDoor
open Go.RowKit
set_option maxHeartbeats 16000000
set_option maxRecDepth 100000
structure TR where
 k:Nat
 s:List UInt8
 n:Nat
 sz:Nat
 e:Nat
def zy (r:TR):Value:=.tuple #[.agg #[.int .i64 r.k,.string (za r.s),.int .i64 r.n,.int .i64 0,.int .i64 0],.int .i64 r.sz,.int .i64 r.e]
def Zr (l:List UInt8):List UInt8:=l.takeWhile fun c=>YF c.toNat
def Z3 (l:List UInt8):TR:=if Zw (Zr l)=true then ⟨5,Zr l,0,(Zr l).length,0⟩ else if 20<(Zr l).length then ⟨0,[],0,0,5⟩ else ⟨1,Zr l,0,(Zr l).length,0⟩
theorem xi (p:UInt8→Bool) (l:List UInt8):l.take (l.takeWhile p).length=l.takeWhile p:=by
 induction l with
 | nil=>rfl
 | cons x l ih =>
  by_cases h:p x=true
  ·simp [h,ih]
  ·simp [h]
theorem vp (l:List UInt8):(Zr l).length≤l.length:=(List.takeWhile_sublist _).length_le
theorem z6.alloc {w:World} (h:z6 w) (o:Obj):z6 (w.alloc o) :=
 ⟨fun j hj=>Lib.cell?_alloc_some o (h.words j hj),fun j hj=>Lib.cell?_alloc_some o (h.signs j hj),fun j hj=>Lib.cell?_alloc_some o (h.escs j hj),by obtain ⟨a,b,c⟩:=h.range;exact ⟨a,b,Lib.cell?_alloc_some o c⟩⟩
theorem z6.below {w w':World} {B:Nat} (h:z6 w) (hb:Below B w w') (hB:w.heap.size≤B):z6 w':=by
 have e:∀{p:Addr} {v:Value},w.cell? p=some v→w'.cell? p=some v:=fun {p v} hp=>by
  rw [hb.cell (Nat.lt_of_lt_of_le (World.block_lt_of_cell? w _ hp) hB)];exact hp
 exact ⟨fun j hj=>e (h.words j hj),fun j hj=>e (h.signs j hj),fun j hj=>e (h.escs j hj),by obtain ⟨a,b,c⟩:=h.range;exact ⟨a,b,e c⟩⟩
theorem Yr (l:List UInt8) (w:World) (hl:l.length≤9223372036854775000) (ht:z6 w) :
  Calls Tryz.prog 63 #[.string (za l)] w fun e w'=>e=.returned (zy (Z3 l))∧Below w.heap.size w w':=by
 have D:Hid (z6 w):=ht;have q:=vp l;obtain ⟨m,c⟩:∃m,m=(Zr l).length:=⟨_,rfl⟩;rw [←c] at q;have u:=fun wx=>xU wx l m q
 rw [show l.take m=Zr l by rw [c];exact xi _ l] at u
 have b:Hid (m=(Zr l).length):=c;clear ht
 have B:Hid (∀wx,Calls Tryz.prog 80 #[.string (za l),.func (.func 81) #[] #[]] wx fun e w'=>e=.returned (.int .i64 m)∧wx=w'):=fun wx=>by
  rw [c];exact vg l wx hl
 have A:Hid (∀wx,z6 wx→Calls Tryz.prog 82 #[.string (za (Zr l))] wx fun e w'=>e=.returned (.bool (Zw (Zr l)))∧wx=w'):=fun wx h=>vn _ wx h
 clear c;have E:=(Below.refl w.heap.size w).alloc (Nat.le_refl _);obtain ⟨x,y⟩:∃x,x=Zr l:=⟨_,rfl⟩;rw [←y] at u A b;have z:Hid (x=Zr l):=y;clear y
 go_enter Tryz.func63,Tryz.ntmps63
 go_wp2_with fail
 refine (B.out _).mono ?_;rintro e w1 ⟨rfl,rfl⟩;go_wp2_with fail
 refine (A.out _ (D.out.alloc _)).mono ?_;rintro e w1 ⟨rfl,rfl⟩;cases hq:Zw x with
 | true =>
  have o:Hid (Z3 l=⟨5,x,0,m,0⟩):=by unfold Z3;rw [←z.out,if_pos hq,←b.out];rfl
  go_wp2
  refine bodyPost_ret (v:=zy ⟨5,x,0,m,0⟩) (by simp [results,Tryz.results63,go_sem,zy]) rfl ⟨by rw [o.out],?_⟩
  exact (Below.refl w.heap.size w).alloc (Nat.le_refl _) _
 | false =>
  by_cases h20:20<m
  ·have o:Hid (Z3 l=⟨0,[],0,0,5⟩):=by unfold Z3;rw [←z.out,if_neg (by rw [hq];simp),if_pos (by rw [←b.out];exact h20)];rfl
   go_wp2
   refine bodyPost_ret (v:=zy ⟨0,[],0,0,5⟩) (by simp [results,Tryz.results63,go_sem,zy]) rfl ⟨by rw [o.out],?_⟩
   exact (Below.refl w.heap.size w).alloc (Nat.le_refl _) _
  ·have o:Hid (Z3 l=⟨1,x,0,m,0⟩):=by unfold Z3;rw [←z.out,if_neg (by rw [hq];simp),if_neg (by rw [←b.out];exact h20),←b.out];rfl
   go_wp2
   refine bodyPost_ret (v:=zy ⟨1,x,0,m,0⟩) (by simp [results,Tryz.results63,go_sem,zy]) rfl ⟨by rw [o.out],?_⟩
   exact (Below.refl w.heap.size w).alloc (Nat.le_refl _) _
def valA (acc:Nat):List UInt8→Nat
 | []=>acc
 | c::r=>valA (acc*10+(c.toNat-48)) r
theorem Xu:∀(r:List UInt8) (acc:Nat),acc≤valA acc r
 | [],_=>Nat.le_refl _
 | c::r,acc=>Nat.le_trans (by omega) (Xu r (acc*10+(c.toNat-48)))
theorem YY (ds:List UInt8):∀(b:Nat),(∀c∈ds,zz c.toNat=true)→b<18446744073709551616 →
  Lib.parseUint10 b ds=if valA b ds<18446744073709551616 then .ok (valA b ds) else .range:=by
 induction ds with
 | nil =>
  intro b _ m;rw [show valA b []=b from rfl,if_pos m]
  rfl
 | cons c r ih =>
  intro b h m;have e:=h c (List.mem_cons_self ..)
  unfold zz at e
  rw [Bool.and_eq_true,decide_eq_true_eq,decide_eq_true_eq] at e;have o:=Xu r (b*10+(c.toNat-48));rw [show valA b (c::r)=valA (b*10+(c.toNat-48)) r from rfl]
  unfold Lib.parseUint10
  rw [if_pos e]
  by_cases h1:1844674407370955162≤b
  ·rw [if_pos h1,if_neg (by omega)]
  ·rw [if_neg h1]
   by_cases h2:18446744073709551616≤b*10+(c.toNat-48)
   ·rw [if_pos h2,if_neg (by omega)]
   ·rw [if_neg h2]
    exact ih _ (fun d hd=>h d (List.mem_cons_of_mem _ hd)) (by omega)
theorem xj {ds:List UInt8} (h:∀c∈ds,zz c.toNat=true) (hne:ds≠[]) :
  Lib.atoiAll ds=if valA 0 ds<9223372036854775808 then .ok (valA 0 ds:Int) else .range:=by
 cases ds with
 | nil=>exact absurd rfl hne
 | cons c r =>
  have e:=h c (List.mem_cons_self ..)
  unfold zz at e
  rw [Bool.and_eq_true,decide_eq_true_eq,decide_eq_true_eq] at e;have o:¬ (c.toNat=43∨c.toNat=45):=by omega
  have m:¬ c.toNat=45:=by omega
  have b:Lib.parseMag (c::r)=if valA 0 (c::r)<18446744073709551616 then .ok (valA 0 (c::r)) else .range:=by
   unfold Lib.parseMag;rw [if_neg (by simp)];exact YY _ 0 h (by omega)
  generalize valA 0 (c::r)=v at b ⊢;have q:(if c.toNat=43∨c.toNat=45 then r else c::r)=c::r:=if_neg o
  unfold Lib.atoiAll
  simp only [q];rw [b]
  by_cases h3:v<18446744073709551616
  ·rw [if_pos h3]
   by_cases h4:v<9223372036854775808
   ·simp only
    rw [if_neg (by omega),if_neg (by omega),if_neg m,if_pos h4]
   ·simp only
    rw [if_pos ⟨m,by omega⟩,if_neg h4]
  ·rw [if_neg h3,if_neg (by omega)]
theorem Xv {p:UInt8→Bool}:∀(l:List UInt8) (c:UInt8),c∈l.takeWhile p→p c=true
 | [],c,h=>by simp at h
 | x::l,c,h=>by
  by_cases hx:p x=true
  ·rw [List.takeWhile_cons_of_pos hx] at h
   rcases List.mem_cons.1 h with rfl | h
   ·exact hx
   ·exact Xv l c h
  ·rw [List.takeWhile_cons_of_neg hx] at h
   simp at h
def digL (l:List UInt8):List UInt8:=l.takeWhile fun c=>zz c.toNat
def xl (l:List UInt8):TR:=if valA 0 (digL l)<9223372036854775808 then ⟨2,[],valA 0 (digL l),(digL l).length,0⟩ else ⟨0,[],0,0,5⟩
theorem vU (l:List UInt8):(digL l).length≤l.length:=(List.takeWhile_sublist _).length_le
theorem vq (l:List UInt8):∀c∈digL l,zz c.toNat=true:=fun c hc=>Xv (p:=fun c=>zz c.toNat) l c hc
theorem yN (l:List UInt8) (w:World) (hl:l.length≤140737488351232) (hne:digL l≠[]) (ht:z6 w) :
  Calls Tryz.prog 65 #[.string (za l)] w fun e w'=>e=.returned (zy (xl l))∧Below w.heap.size w w':=by
 have W:Hid (z6 w):=ht;have B:=vU l;obtain ⟨m,z⟩:∃m,m=(digL l).length:=⟨_,rfl⟩;rw [←z] at B;have D:=fun wx=>xU wx l m B
 rw [show l.take m=digL l by rw [z];exact xi _ l] at D
 have F:Hid (m=(digL l).length):=z;have U:m≤140737488351232:=by omega
 clear ht
 have V:Hid (∀wx,Calls Tryz.prog 80 #[.string (za l),.func (.func 64) #[] #[]] wx fun e w'=>e=.returned (.int .i64 m)∧wx=w'):=fun wx=>by
  rw [z];exact XH l wx (by omega)
 have c:=xj (vq l) hne;obtain ⟨x,G⟩:∃x,x=digL l:=⟨_,rfl⟩;rw [←G] at D F c;obtain ⟨v,H⟩:∃v,v=valA 0 x:=⟨_,rfl⟩;rw [←H] at c;have R:Hid (x=digL l):=G;have O:Hid (v=valA 0 x):=H;have q:Hid (Lib.atoiAll x=if v<9223372036854775808 then .ok (v:Int) else .range):=c
 clear G H c z
 go_enter Tryz.func65,Tryz.ntmps65
 go_wp2_with fail
 refine (V.out _).mono ?_;rintro e w1 ⟨rfl,rfl⟩
 by_cases h63:v<9223372036854775808
 ·have E:=fun wx=>Tryz.strconv_Atoi_ok (za x) (by rw [zo,←F.out];omega) v (by show Lib.atoiAll x=_;rw [q.out,if_pos h63]) wx
  have J:Hid (xl l=⟨2,[],v,m,0⟩):=by unfold xl;rw [←R.out,←O.out,if_pos h63,←F.out];rfl
  go_wp2_with fail
  refine (E _).mono ?_;clear E;rintro e w1 ⟨rfl,A⟩
  have b:Below (w.heap.size+1) (w.alloc (Obj.cells #[Value.int IntKind.i64 0,Value.string ⟨#[]⟩,Value.int IntKind.i64 0,Value.int IntKind.i64 0,Value.int IntKind.i64 0] 103)) w1:=by
   rcases A with rfl | ⟨t,rfl⟩
   ·exact Below.refl _ _
   ·have y:=Lib.bytesWorld_below (w.alloc (Obj.cells #[Value.int IntKind.i64 0,Value.string ⟨#[]⟩,Value.int IntKind.i64 0,Value.int IntKind.i64 0,Value.int IntKind.i64 0] 103)) 5 t
    rw [World.size_alloc] at y;exact y
  clear A
  obtain ⟨h,I⟩:(∀o,w1.cell? ⟨w.heap.size,o,none⟩=(w.alloc (Obj.cells #[Value.int IntKind.i64 0,Value.string ⟨#[]⟩,Value.int IntKind.i64 0,Value.int IntKind.i64 0,Value.int IntKind.i64 0] 103)).cell? ⟨w.heap.size,o,none⟩)∧(∀o,w1.frozen? ⟨w.heap.size,o,none⟩=(w.alloc (Obj.cells #[Value.int IntKind.i64 0,Value.string ⟨#[]⟩,Value.int IntKind.i64 0,Value.int IntKind.i64 0,Value.int IntKind.i64 0] 103)).frozen? ⟨w.heap.size,o,none⟩) :=
   ⟨fun o=>b.cell (p:=⟨w.heap.size,o,none⟩) (by simp),fun o=>b.frozen (p:=⟨w.heap.size,o,none⟩) (by simp)⟩
  have K:Hid (Below w.heap.size w w1):=((Below.refl w.heap.size w).alloc (Nat.le_refl _) _).trans (b.mono (by omega))
  clear b;go_wp2
  refine bodyPost_ret (v:=zy ⟨2,[],v,m,0⟩) (by simp [results,Tryz.results65,go_sem,zy,h]) rfl ⟨by rw [J.out],?_⟩
  exact ((((K.out.setCell (p:=⟨w.heap.size,0,none⟩) (Nat.le_refl _) _).setCell (p:=⟨w.heap.size,1,none⟩) (Nat.le_refl _) _).setCell (p:=⟨w.heap.size,2,none⟩) (Nat.le_refl _) _).setCell (p:=⟨w.heap.size,3,none⟩) (Nat.le_refl _) _).setCell (p:=⟨w.heap.size,4,none⟩) (Nat.le_refl _) _
 ·obtain ⟨M,T,u⟩:=W.out.range
  have E:=Tryz.strconv_Atoi_range (za x) (by rw [zo,←F.out];omega) (by show Lib.atoiAll x=_;rw [q.out,if_neg h63]) (.iface M T) (w.alloc (Obj.cells #[Value.int IntKind.i64 0,Value.string ⟨#[]⟩,Value.int IntKind.i64 0,Value.int IntKind.i64 0,Value.int IntKind.i64 0] 103)) (Lib.cell?_alloc_some _ u) (.inr ⟨M,T,rfl⟩)
  have J:Hid (xl l=⟨0,[],0,0,5⟩):=by unfold xl;rw [←R.out,←O.out,if_neg h63];rfl
  go_wp2_with fail
  refine E.mono ?_;clear E;rintro e w1 ⟨X,rfl,-,-,b⟩;rw [World.size_alloc] at b
  obtain ⟨h,I⟩:(∀o,w1.cell? ⟨w.heap.size,o,none⟩=(w.alloc (Obj.cells #[Value.int IntKind.i64 0,Value.string ⟨#[]⟩,Value.int IntKind.i64 0,Value.int IntKind.i64 0,Value.int IntKind.i64 0] 103)).cell? ⟨w.heap.size,o,none⟩)∧(∀o,w1.frozen? ⟨w.heap.size,o,none⟩=(w.alloc (Obj.cells #[Value.int IntKind.i64 0,Value.string ⟨#[]⟩,Value.int IntKind.i64 0,Value.int IntKind.i64 0,Value.int IntKind.i64 0] 103)).frozen? ⟨w.heap.size,o,none⟩) :=
   ⟨fun o=>b.cell (p:=⟨w.heap.size,o,none⟩) (by simp),fun o=>b.frozen (p:=⟨w.heap.size,o,none⟩) (by simp)⟩
  have K:Hid (Below w.heap.size w w1):=((Below.refl w.heap.size w).alloc (Nat.le_refl _) _).trans (b.mono (by omega))
  clear b u;go_wp2
  refine bodyPost_ret (v:=zy ⟨0,[],0,0,5⟩) (by simp [results,Tryz.results65,go_sem,zy,h]) rfl ⟨by rw [J.out],?_⟩
  exact ((((K.out.setCell (p:=⟨w.heap.size,0,none⟩) (Nat.le_refl _) _).setCell (p:=⟨w.heap.size,1,none⟩) (Nat.le_refl _) _).setCell (p:=⟨w.heap.size,2,none⟩) (Nat.le_refl _) _).setCell (p:=⟨w.heap.size,3,none⟩) (Nat.le_refl _) _).setCell (p:=⟨w.heap.size,4,none⟩) (Nat.le_refl _) _
def longer (l best x:List UInt8):List UInt8:=if best.length<x.length∧Lib.hasPrefix l x=true then x else best
def zW (l:List UInt8) (n:Nat):List UInt8:=(signsL.take n).foldl (longer l) []
def yG (l:List UInt8):TR:=if zW l 25=[] then ⟨0,[],0,0,6⟩ else ⟨4,zW l 25,0,(zW l 25).length,0⟩
theorem xV (l:List UInt8) (n:Nat) (h:n<signsL.length):zW l (n+1)=longer l (zW l n) signsL[n]:=by
 unfold zW;rw [List.take_succ_eq_append_getElem h,List.foldl_append];rfl
theorem XK (l:List UInt8) (n:Nat):(zW l n).length≤2:=by
 have h:∀(c:List (List UInt8)) (b:List UInt8),(∀x∈c,x.length≤2)→b.length≤2→(c.foldl (longer l) b).length≤2:=by
  intro c
  induction c with
  | nil=>intro b _ m;exact m
  | cons x c ih =>
   intro b e m;refine ih _ (fun y hy=>e y (List.mem_cons_of_mem _ hy)) ?_
   unfold longer
   split
   ·exact e x (List.mem_cons_self ..)
   ·exact m
 exact h _ _ (fun x e=>by
  have:∀x∈signsL,x.length≤2:=by decide
  exact this x (List.mem_of_mem_take e)) (by simp)
def yq:List Value:=signsL.map fun x=>.string (za x)
def signsV:Value:=.agg yq.toArray
theorem xm {w:World} (ht:z6 w):w.rangeAt 2 0 yq:=fun j v hv=>by
 unfold yq at hv
 rw [List.getElem?_map] at hv;rcases Nat.lt_or_ge j signsL.length with h | h
 ·rw [List.getElem?_eq_getElem h] at hv
  simp only [Option.map_some,Option.some.injEq] at hv;rw [Nat.zero_add,ht.signs j h,hv]
 ·rw [List.getElem?_eq_none h] at hv;cases hv
theorem xW:(Tryz.prog.info? 140).map (·.size)=some yq.length:=by kernel_rfl
theorem Ys (l:List UInt8) (w:World) (ht:z6 w) :
  Calls Tryz.prog 67 #[.string (za l)] w fun e w'=>e=.returned (zy (yG l))∧Below w.heap.size w w':=by
 have J:Hid (z6 w):=ht;clear ht
 go_enter Tryz.func67,Tryz.ntmps67
 go_wp2_with (refine wpList_load_mid rfl 140 _ rfl 2 0 rfl yq _ (xm (J.out.alloc _)) Tryz.underlying140 rfl xW ?_)
 have K:Hid (∀(wx:World) (i:Nat) (h:i<25),(Instr.index 140 signsV (.int .i64 (i:Int))).run Tryz.prog wx=.ok (.string (za (signsL[i]'h))) wx):=fun wx i h=>XJ wx i h
 rw [show Value.agg yq.toArray=signsV from rfl]
 generalize signsV=A at *
 go_loop [5,9] (fun vb v=>∃i:Nat,i≤25∧v=.int .i64 i∧vb=.string (za (zW l i))) (fun _ v=>25-(intOf v).toNat)
 case atStart=>exact ⟨0,Nat.zero_le _,rfl,rfl⟩
 case round =>
  obtain ⟨i,M,rfl,rfl⟩:=hrel;have B:=XK l i;obtain ⟨b,G⟩:∃b,b=zW l i:=⟨_,rfl⟩;rw [←G] at B ⊢;have F:Hid (b=zW l i):=G;clear G
  by_cases hlt:i<25
  ·have o:=fun wx=>K.out wx i hlt
   obtain ⟨x,q⟩:∃x,x=signsL[i]'hlt:=⟨_,rfl⟩;rw [←q] at o
   have H:x.length≤2:=by
    have:∀x∈signsL,x.length≤2:=by decide
    rw [q];exact this _ (List.getElem_mem _)
   have z:Hid (zW l (i+1)=longer l b x):=show zW l (i+1)=longer l b x by rw [xV l i hlt,F.out,q]
   have I:(za x).size=x.length:=rfl;have D:(za b).size=b.length:=rfl;clear q
   by_cases hlen:b.length<x.length
   ·have u:=fun wx=>Tryz.strings_HasPrefix (za l) (za x) wx
    cases hp:Lib.hasPrefix l x with
    | true =>
     have m:Lib.hasPrefix (za l).data.toList (za x).data.toList=true:=hp;rw [m] at u;have c:Hid (zW l (i+1)=x):=show zW l (i+1)=x by rw [z.out];unfold longer;rw [if_pos ⟨hlen,hp⟩]
     clear m;go_wp2_with (go_at_call 85;refine (u _).mono ?_;rintro e w1 ⟨rfl,rfl⟩)
     refine ⟨⟨i+1,by omega,by go_num,by rw [c.out]⟩,by simp [intOf];omega⟩
    | false =>
     have m:Lib.hasPrefix (za l).data.toList (za x).data.toList=false:=hp;rw [m] at u;have c:Hid (zW l (i+1)=b):=show zW l (i+1)=b by rw [z.out];unfold longer;rw [if_neg (fun h=>by rw [hp] at h;exact absurd h.2 (by decide))]
     clear m;go_wp2_with (go_at_call 85;refine (u _).mono ?_;rintro e w1 ⟨rfl,rfl⟩)
     refine ⟨⟨i+1,by omega,by go_num,by rw [c.out]⟩,by simp [intOf];omega⟩
   ·have c:Hid (zW l (i+1)=b):=show zW l (i+1)=b by rw [z.out];unfold longer;rw [if_neg (fun h=>hlen h.1)]
    go_wp2
    refine ⟨⟨i+1,by omega,by go_num,by rw [c.out]⟩,by simp [intOf];omega⟩
  ·obtain rfl:i=25:=by omega
   have D:(za b).size=b.length:=rfl;cases b with
   | nil =>
    have E:Hid (yG l=⟨0,[],0,0,6⟩):=by unfold yG;rw [←F.out,if_pos rfl];rfl
    go_wp2
    refine bodyPost_ret (v:=zy ⟨0,[],0,0,6⟩) (by simp [results,Tryz.results67,go_sem,zy]) rfl ⟨by rw [E.out],?_⟩
    exact (Below.refl w.heap.size w).alloc (Nat.le_refl _) _
   | cons y ys =>
    have E:Hid (yG l=⟨4,y::ys,0,(y::ys).length,0⟩):=by unfold yG;rw [←F.out,if_neg (by simp)];rfl
    go_wp2
    refine bodyPost_ret (v:=zy ⟨4,y::ys,0,(y::ys).length,0⟩) (by simp [results,Tryz.results67,go_sem,zy]) rfl ⟨by rw [E.out],?_⟩
    exact (Below.refl w.heap.size w).alloc (Nat.le_refl _) _
def yS:List UInt8→Nat × Nat
 | []=>(0,0)
 | x::r=>if x.toNat<32∨126<x.toNat then (0,0) else if x.toNat≠92 then (x.toNat,1) else
  match r with
  | []=>(0,0)
  | y::_=>if y.toNat=92 then (92,2) else if y.toNat=34 then (34,2) else if y.toNat=110 then (10,2) else (0,0)
theorem YZ (w:World) (l:List UInt8) (i:Nat) (h:i<l.length):(Instr.index 9 (.string (za l)) (.int .i64 (i:Int))).run Tryz.prog w=.ok (.int .u8 ((l[i]).toNat:Int)) w:=by
 rw [run_index_string (P:=Tryz.prog) (w:=w) 9 (za l) .i64 _ Tryz.underlying9,dif_pos ⟨by omega,by rw [zo];omega⟩]
 simp only [Int.toNat_natCast]
 rfl
theorem YG {a:Nat × Nat} {c k:Nat} (h:a=(c,k)):(Ending.returned (.tuple #[.int .u8 (c:Int),.int .i64 (k:Int)]):Ending)=.returned (.tuple #[.int .u8 (a.1:Int),.int .i64 (a.2:Int)]):=by rw [h]
theorem Xw {x:UInt8} {r:List UInt8} (h:x.toNat<32∨126<x.toNat):yS (x::r)=(0,0):=by
 show (if _ then _ else _)=_;rw [if_pos h]
theorem Xx {x:UInt8} {r:List UInt8} (h:¬ (x.toNat<32∨126<x.toNat)) (h2:x.toNat≠92):yS (x::r)=(x.toNat,1):=by
 show (if _ then _ else _)=_;rw [if_neg h,if_pos h2]
theorem Xy {x:UInt8} (h:¬ (x.toNat<32∨126<x.toNat)) (h2:x.toNat=92):yS [x]=(0,0):=by
 show (if _ then _ else _)=_;rw [if_neg h,if_neg (by omega)]
def VF (m:Nat):Nat × Nat:=if m=92 then (92,2) else if m=34 then (34,2) else if m=110 then (10,2) else (0,0)
theorem Xz {x y:UInt8} {t:List UInt8} (h:¬ (x.toNat<32∨126<x.toNat)) (h2:x.toNat=92):yS (x::y::t)=VF y.toNat:=by
 show (if _ then _ else _)=_;rw [if_neg h,if_neg (by omega)];rfl
def yO:List Nat:=[92,34,110]
def Yt:List Nat:=[92,34,10]
theorem Vv {m i:Nat} (hi:i<3) (h:∀j (hj:j<3),j<i→(yO[j]'hj)≠m) (he:(yO[i]'hi)=m):VF m=((Yt[i]'hi),2):=by
 have b:i=0∨i=1∨i=2:=by omega
 rcases b with rfl | rfl | rfl
 ·rw [←he];rfl
 ·rw [←he];rfl
 ·rw [←he];rfl
theorem vV {m:Nat} (h:∀j (hj:j<3),(yO[j]'hj)≠m):VF m=(0,0):=by
 have e:92≠m:=h 0 (by decide)
 have c:34≠m:=h 1 (by decide)
 have b:110≠m:=h 2 (by decide)
 unfold VF
 rw [if_neg (by omega),if_neg (by omega),if_neg (by omega)]
theorem xo (w:World) (i:Nat) (h:i<3):(Instr.index 151 (.agg #[.int .u8 92,.int .u8 92,.int .u8 34,.int .u8 34,.int .u8 10,.int .u8 110]) (.int .i64 (i:Int))).run Tryz.prog w=.ok (.agg #[.int .u8 ((Yt[i]'h:Nat):Int),.int .u8 ((yO[i]'h:Nat):Int)]) w:=by
 have b:i=0∨i=1∨i=2:=by omega
 rcases b with rfl | rfl | rfl
 all_goals rfl
theorem Y0 (x:UInt8) (r:List UInt8) (w:World) (hl:r.length≤9223372036854775000) (ht:z6 w) :
  Calls Tryz.prog 84 #[.string (za (x::r))] w fun e w'=>e=.returned (.tuple #[.int .u8 (yS (x::r)).1,.int .i64 (yS (x::r)).2])∧Below w.heap.size w w':=by
 have O:=fun wx=>YZ wx (x::r) 0 (by simp)
 rw [show ((0:Nat):Int)=0 from rfl,show (x::r)[0]=x from rfl] at O
 have o:(za (x::r)).size=r.length+1:=rfl;obtain ⟨n,c⟩:∃n,n=x.toNat:=⟨_,rfl⟩;have J:n<256:=by rw [c];exact UInt8.toNat_lt x
 rw [←c] at O;obtain ⟨S,D⟩:∃S,S=za (x::r):=⟨_,rfl⟩;rw [←D] at O o ⊢;have e0:=ht.escs 0 (by decide)
 have U:=ht.escs 1 (by decide)
 have T:=ht.escs 2 (by decide)
 have W:=ht.escs 3 (by decide)
 have Z:=ht.escs 4 (by decide)
 have X:=ht.escs 5 (by decide)
 simp only [List.getElem_cons_zero,List.getElem_cons_succ] at e0 U T W Z X;clear ht
 by_cases hbad:n<32∨126<n
 ·have q:Hid (yS (x::r)=(0,0)):=Xw (by rw [←c];exact hbad)
  clear D c;rcases hbad with B | B
  ·go_enter Tryz.func84,Tryz.ntmps84
   go_wp2
   go_ret2
   exact ⟨YG q.out,Below.refl _ _⟩
  ·go_enter Tryz.func84,Tryz.ntmps84
   go_wp2
   go_ret2
   exact ⟨YG q.out,Below.refl _ _⟩
 ·by_cases h92:n=92
  ·cases r with
   | nil =>
    have q:Hid (yS [x]=(0,0)):=Xy (by rw [←c];exact hbad) (by rw [←c];exact h92)
    have Y:S.size=1:=o;clear D c hbad o;subst h92
    go_enter Tryz.func84,Tryz.ntmps84
    go_wp2
    go_ret2
    exact ⟨YG q.out,Below.refl _ _⟩
   | cons y t =>
    have R:=fun wx=>YZ wx (x::y::t) 1 (by simp)
    rw [show ((1:Nat):Int)=1 from rfl,show (x::y::t)[1]=y from rfl] at R
    obtain ⟨m,G⟩:∃m,m=y.toNat:=⟨_,rfl⟩;have I:m<256:=by rw [G];exact UInt8.toNat_lt y
    rw [←G,←D] at R;have E:Hid (yS (x::y::t)=VF m):=show _=_ by rw [G];exact Xz (by rw [←c];exact hbad) (by rw [←c];exact h92)
    have V:S.size=t.length+2:=o;have aa:((t.length:Int)+2==1)=false:=by rw [beq_eq_false_iff_ne];omega
    have ab:t.length+1≤9223372036854775000:=by simpa using hl
    clear D c hbad o G hl;subst h92
    go_enter Tryz.func84,Tryz.ntmps84
    go_wp2
    clear e0 U T W Z X
    go_loopw [26] (fun v wr=>∃i:Nat,i≤3∧v=.int .i64 i∧(∀j (hj:j<3),j<i→(yO[j]'hj)≠m)∧Below w.heap.size w wr) (fun v _=>3-(intOf v).toNat)
    case atStart=>exact ⟨0,Nat.zero_le _,rfl,fun j _ h=>by omega,Below.refl _ _⟩
    case round =>
     obtain ⟨i,hi,rfl,z,A⟩:=hrel;have K:Hid (∀j (hj:j<3),j<i→(yO[j]'hj)≠m):=z;have M:Hid (Below w.heap.size w wr):=A;have u:=A.size;clear z A
     by_cases hlt:i<3
     ·have F:=fun wx=>xo wx i hlt
      obtain ⟨a,H⟩:∃a,a=Yt[i]'hlt:=⟨_,rfl⟩;obtain ⟨b,B⟩:∃b,b=yO[i]'hlt:=⟨_,rfl⟩;rw [←H,←B] at F
      by_cases he:b=m
      ·have q:Hid (yS (x::y::t)=(a,2)):=show _=_ by rw [E.out,H];exact Vv hlt K.out (by rw [←B];exact he)
       subst he;clear H B;go_wp2
       go_quiet (fail)
       go_wp2
       go_ret2
       refine ⟨YG q.out,?_⟩;exact (M.out.alloc u _).trans ⟨rfl,rfl,rfl,Nat.le_refl _,fun _ _=>rfl⟩
      ·have ae:((b:Int)==(m:Int))=false:=by rw [beq_eq_false_iff_ne];omega
       have HE:Hid ((yO[i]'hlt)≠m):=show (yO[i]'hlt)≠m by rw [←B];exact he
       clear H B he;go_wp2
       go_quiet (fail)
       go_wp2
       refine ⟨⟨i+1,by omega,by go_num,fun j hj hji=>?_,(M.out.alloc u _).trans ⟨rfl,rfl,rfl,Nat.le_refl _,fun _ _=>rfl⟩⟩,by simp [intOf];omega⟩
       by_cases h:j<i
       ·exact K.out j hj h
       ·obtain rfl:j=i:=by omega
        exact HE.out
     ·obtain rfl:i=3:=by omega
      have q:Hid (yS (x::y::t)=(0,0)):=show _=_ by rw [E.out];exact vV (fun j hj=>K.out j hj hj)
      go_wp2
      go_ret2
      exact ⟨YG q.out,M.out⟩
  ·have q:Hid (yS (x::r)=(n,1)):=show yS (x::r)=(n,1) by rw [c];exact Xx (by rw [←c];exact hbad) (by rw [←c];exact h92)
   have ad:32≤n:=by omega
   have af:n≤126:=by omega
   clear D c hbad
   go_enter Tryz.func84,Tryz.ntmps84
   go_wp2
   go_ret2
   exact ⟨YG q.out,Below.refl _ _⟩
def yX:Nat→List UInt8→Nat→List UInt8→TR
 | 0,_,_,_=>⟨0,[],0,0,6⟩
 | _+1,_,_,[]=>⟨0,[],0,0,6⟩
 | f+1,meant,at0,x::r=>if x.toNat=34 then ⟨3,meant,0,at0+1,0⟩ else if (yS (x::r)).2=0 then ⟨0,[],0,0,6⟩ else if meant.length=255 then ⟨0,[],0,0,5⟩
  else yX f (meant++[(yS (x::r)).1.toUInt8]) (at0+(yS (x::r)).2) ((x::r).drop (yS (x::r)).2)
def ZC (l:List UInt8):TR:=yX l.length [] 1 (l.drop 1)
theorem Vx (l:List UInt8):(yS l).2≤l.length∧(yS l).1<256:=by
 cases l with
 | nil=>exact ⟨Nat.le_refl _,by decide⟩
 | cons x r =>
  by_cases h:x.toNat<32∨126<x.toNat
  ·rw [Xw h];simp
  ·by_cases h2:x.toNat=92
   ·cases r with
    | nil=>rw [Xy h h2];simp
    | cons y t =>
     rw [Xz h h2]
     unfold VF
     split
     ·simp
     ·split
      ·simp
      ·split <;> simp
   ·rw [Xx h h2]
    have:=UInt8.toNat_lt x
    simp;omega
abbrev Zo:Obj:=Obj.cells #[Value.int IntKind.i64 0,Value.string ⟨#[]⟩,Value.int IntKind.i64 0,Value.int IntKind.i64 0,Value.int IntKind.i64 0] 103
theorem ZD {w w1:World} (hb:Below (w.heap.size+1) (w.alloc Zo) w1) :
  (∀o,w1.cell? ⟨w.heap.size,o,none⟩=(w.alloc Zo).cell? ⟨w.heap.size,o,none⟩)∧(∀o,w1.frozen? ⟨w.heap.size,o,none⟩=(w.alloc Zo).frozen? ⟨w.heap.size,o,none⟩) :=
 ⟨fun o=>hb.cell (p:=⟨w.heap.size,o,none⟩) (by simp),fun o=>hb.frozen (p:=⟨w.heap.size,o,none⟩) (by simp)⟩
theorem zJ {w w1:World} (h:Below w.heap.size w w1) (a b c d e:Value) :
  Below w.heap.size w (((((w1.setCell ⟨w.heap.size,0,none⟩ a).setCell ⟨w.heap.size,1,none⟩ b).setCell ⟨w.heap.size,2,none⟩ c).setCell ⟨w.heap.size,3,none⟩ d).setCell ⟨w.heap.size,4,none⟩ e) :=
 ((((h.setCell (p:=⟨w.heap.size,0,none⟩) (Nat.le_refl _) _).setCell (p:=⟨w.heap.size,1,none⟩) (Nat.le_refl _) _).setCell (p:=⟨w.heap.size,2,none⟩) (Nat.le_refl _) _).setCell (p:=⟨w.heap.size,3,none⟩) (Nat.le_refl _) _).setCell (p:=⟨w.heap.size,4,none⟩) (Nat.le_refl _) _
theorem yr {w w':World} {B C e n:Nat} {v:Value} {xs:List Value} (h:w.ownsRow B e 1 v n xs) (hb:Below C w w') (hC:w.heap.size≤C):w'.ownsRow B e 1 v n xs :=
 h.kept (row:=none) ⟨hb.os,hb.tape,hb.output,hb.size,fun k hk _=>hb.block k (by omega)⟩ (by cases h':v.ownBlock <;> simp)
theorem Yu (l:List UInt8) (w:World) (hl:l.length≤140737488351232) (hl1:1≤l.length) (ht:z6 w) :
  Calls Tryz.prog 66 #[.string (za l)] w fun e w'=>e=.returned (zy (ZC l))∧Below w.heap.size w w':=by
 have HT:Hid (z6 w):=ht;have aA:(za l).size=l.length:=rfl;have hA:Below w.heap.size w (w.alloc Zo):=(Below.refl w.heap.size w).alloc (Nat.le_refl _) _;have HA:Hid (Below w.heap.size w (w.alloc Zo)):=hA;clear ht hA
 go_enter Tryz.func66,Tryz.ntmps66
 go_wp2
 go_loopw [5,6] (fun vm va wr=>∃(f at0:Nat) (b:List UInt8),va=.int .i64 at0∧at0≤l.length∧l.length≤at0+f∧b.length≤255∧ZC l=yX f b at0 (l.drop at0) ∧
   wr.ownsRow (w.heap.size+1) 5 1 vm b.length (Lib.byteCells b)∧Below (w.heap.size+1) (w.alloc Zo) wr) (fun _ a _=>l.length-(intOf a).toNat)
 case atStart=>exact ⟨l.length,1,[],rfl,hl1,by omega,by simp,rfl,World.ownsRow_nil _ _ _ _,Below.refl _ _⟩
 case round =>
  obtain ⟨f,at0,b,rfl,aB,az,ap,aa,M,A⟩:=hrel;have ab:Hid (ZC l=yX f b at0 (l.drop at0)):=aa;have af:Hid (Below (w.heap.size+1) (w.alloc Zo) wr):=A;have HB:Hid (Below w.heap.size w wr):=HA.out.trans (A.mono (by omega))
  have K:=A.size;rw [World.size_alloc] at K;obtain ⟨y,Y⟩:=ZD A;have HO:Hid (wr.ownsRow (w.heap.size+1) 5 1 u5 b.length (Lib.byteCells b)):=M;clear aa A M
  by_cases hlt:at0<l.length
  ·obtain ⟨x,r,u⟩:∃x r,l.drop at0=x::r:=⟨l[at0],l.drop (at0+1),List.drop_eq_getElem_cons hlt⟩
   have Z:l[at0]=x:=by
    have h:=List.drop_eq_getElem_cons hlt;rw [u] at h;exact (List.cons.inj h).1.symm
   have O:=fun wx=>YZ wx l at0 hlt
   rw [Z] at O;obtain ⟨n,hn⟩:∃n,n=x.toNat:=⟨_,rfl⟩;rw [←hn] at O;have ak:n<256:=by rw [hn];exact UInt8.toNat_lt x
   obtain ⟨X,rfl⟩:∃X,f=X+1:=⟨f-1,by omega⟩
   have aj:Hid (ZC l=if n=34 then ⟨3,b,0,at0+1,0⟩ else if (yS (x::r)).2=0 then ⟨0,[],0,0,6⟩ else if b.length=255 then ⟨0,[],0,0,5⟩ else yX X (b++[(yS (x::r)).1.toUInt8]) (at0+(yS (x::r)).2) ((x::r).drop (yS (x::r)).2)):=show _=_ by
    rw [ab.out,u,hn];rfl
   have ao:=fun wx=>ve wx l at0 (by omega)
   rw [u] at ao;have ah:(x::r).length=l.length-at0:=by rw [←u,List.length_drop]
   have ar:Hid (l.drop at0=x::r):=u;clear Z hn u
   by_cases h34:n=34
   ·have H:Hid (ZC l=⟨3,b,0,at0+1,0⟩):=show _=_ by rw [aj.out,if_pos h34]
    subst h34;obtain ⟨o,F,rfl,z,-,-,-⟩:=Zq HO.out;have ay:=ZA wr o b F z;clear z;go_wp2
    refine bodyPost_ret (v:=zy ⟨3,b,0,at0+1,0⟩) (by simp [results,Tryz.results66,go_sem,zy,y]) rfl ⟨by rw [H.out],?_⟩
    exact zJ HB.out _ _ _ _ _
   ·have aw:((n:Int)==34)=false:=by rw [beq_eq_false_iff_ne];omega
    have D:=Vx (x::r);have cb:=Y0 x r wr (by simp at ah;omega) (HT.out.below HB.out (Nat.le_refl _))
    obtain ⟨c,G,V⟩:∃c G,yS (x::r)=(c,G):=⟨_,_,rfl⟩;rw [V] at cb D;simp only at D
    have T:Hid (ZC l=if G=0 then ⟨0,[],0,0,6⟩ else if b.length=255 then ⟨0,[],0,0,5⟩ else yX X (b++[c.toUInt8]) (at0+G) ((x::r).drop G)):=show _=_ by
     rw [aj.out,if_neg h34,V]
    clear V h34;go_wp2_with fail
    refine cb.mono ?_;clear cb y Y;rintro e w2 ⟨rfl,I⟩;have au:=I.size;have J:Below (w.heap.size+1) (w.alloc Zo) w2:=af.out.trans (I.mono K);obtain ⟨y,Y⟩:=ZD J;have aq:Hid (Below (w.heap.size+1) (w.alloc Zo) w2):=J;have ai:Hid (Below w.heap.size w w2):=HA.out.trans (J.mono (by omega))
    have U:Hid (w2.ownsRow (w.heap.size+1) 5 1 u5 b.length (Lib.byteCells b)):=yr HO.out I (Nat.le_refl _);clear I J HO af
    by_cases hs0:G=0
    ·have H:Hid (ZC l=⟨0,[],0,0,6⟩):=show _=_ by rw [T.out,if_pos hs0]
     subst hs0;go_wp2
     refine bodyPost_ret (v:=zy ⟨0,[],0,0,6⟩) (by simp [results,Tryz.results66,go_sem,zy,y]) rfl ⟨by rw [H.out],?_⟩
     exact zJ ai.out _ _ _ _ _
    ·have ax:((G:Int)==0)=false:=by rw [beq_eq_false_iff_ne];omega
     obtain ⟨o,F,rfl,-,-,-,-⟩:=Zq U.out;obtain ⟨W,m⟩:∃W,W=b.length:=⟨_,rfl⟩;have ag:Hid (W=b.length):=m;rw [←m]
     by_cases h255:W=255
     ·have H:Hid (ZC l=⟨0,[],0,0,5⟩):=show _=_ by rw [T.out,if_neg hs0,if_pos (by rw [←m];exact h255)]
      clear m;subst h255;go_wp2
      refine bodyPost_ret (v:=zy ⟨0,[],0,0,5⟩) (by simp [results,Tryz.results66,go_sem,zy,y]) rfl ⟨by rw [H.out],?_⟩
      exact zJ ai.out _ _ _ _ _
     ·have al:((W:Int)==255)=false:=by rw [beq_eq_false_iff_ne];omega
      have H:Hid (ZC l=yX X (b++[c.toUInt8]) (at0+G) (l.drop (at0+G))):=show _=_ by
       rw [T.out,if_neg hs0,if_neg (by rw [←m];exact h255),←ar.out,List.drop_drop]
      have ae:Hid (w2.ownsRow (w.heap.size+1) 5 1 (.slice o W F) b.length (Lib.byteCells b)):=by rw [m];exact U.out
      have R:=D.2;have ad:=D.1;rw [ah] at ad;have av:b.length≤255:=ap;clear m U D
      go_wp2_with (at_builtin;refine Ze rfl _ _ rfl (w.heap.size+1) _ b rfl (ae.out.alloc _) _ [c.toUInt8] rfl (ZR R (by simp)) (by simp;omega) (by simp;omega) ?_)
      intro v3 w3 E B;have am:Hid (Below (w.heap.size+1) (w.alloc Zo) w3):=(aq.out.alloc (by omega) _).grown B (by simp;omega) (fun q hq=>(ae.out.lt q hq).1)
      have an:Hid (w3.ownsRow (w.heap.size+1) 5 1 v3 (b++[c.toUInt8]).length (Lib.byteCells (b++[c.toUInt8]))):=by
       rw [show (b++[c.toUInt8]).length=b.length+1 by simp];exact E
      clear B E;go_wp2
      refine ⟨⟨X,at0+G,b++[c.toUInt8],by go_num,by omega,by omega,?_,H.out,an.out,am.out⟩,by simp [intOf];omega⟩
      rw [List.length_append,List.length_singleton,←ag.out]
      have:=ag.out
      omega
  ·obtain rfl:at0=l.length:=by omega
   have H:Hid (ZC l=⟨0,[],0,0,6⟩):=show _=_ by
    rw [ab.out,List.drop_length];cases f <;> rfl
   go_wp2
   refine bodyPost_ret (v:=zy ⟨0,[],0,0,6⟩) (by simp [results,Tryz.results66,go_sem,zy,y]) rfl ⟨by rw [H.out],?_⟩
   exact zJ HB.out _ _ _ _ _
def Z5 (l:List UInt8):TR :=
 match l with
 | []=>⟨0,[],0,0,0⟩
 | x::_=>if ZM x.toNat=true then Z3 l else if zz x.toNat=true then xl l else if x.toNat=34 then ZC l else yG l
theorem vW {x:UInt8} {r:List UInt8} (h:zz x.toNat=true):digL (x::r)≠[]:=by
 unfold digL;simp [h]
theorem XL (l:List UInt8) (w:World) (hl:l.length≤140737488351232) (ht:z6 w) :
  Calls Tryz.prog 53 #[.string (za l)] w fun e w'=>e=.returned (zy (Z5 l))∧Below w.heap.size w w':=by
 have J:Below w.heap.size w (w.alloc Zo):=(Below.refl w.heap.size w).alloc (Nat.le_refl _) _;have F:Hid (Below w.heap.size w (w.alloc Zo)):=J;have H:Hid (z6 (w.alloc Zo)):=ht.alloc _;clear ht J;cases l with
 | nil =>
  go_enter Tryz.func53,Tryz.ntmps53
  go_wp2
  refine bodyPost_ret (v:=zy ⟨0,[],0,0,0⟩) (by simp [results,Tryz.results53,go_sem,zy]) rfl ⟨rfl,?_⟩
  exact F.out
 | cons x r =>
  have A:=fun wx=>YZ wx (x::r) 0 (by simp)
  rw [show ((0:Nat):Int)=0 from rfl,show (x::r)[0]=x from rfl] at A
  obtain ⟨n,G⟩:∃n,n=x.toNat:=⟨_,rfl⟩;rw [←G] at A;have u:n<256:=by rw [G];exact UInt8.toNat_lt x
  have y:Hid (Z5 (x::r)=if ZM n=true then Z3 (x::r) else if zz n=true then xl (x::r) else if n=34 then ZC (x::r) else yG (x::r)):=show _=_ by rw [G];rfl
  have U:Hid (zz n=true→digL (x::r)≠[]):=fun h=>vW (by rw [←G];exact h)
  have T:¬ (x::r)=[]:=by simp
  clear G
  go_enter Tryz.func53,Tryz.ntmps53
  have O:(x::r).length≤140737488351232:=hl;have z:Hid (∀(R:TR) (w1:World),Below (w.alloc Zo).heap.size (w.alloc Zo) w1→Below (w.heap.size+1) (w.alloc Zo) w1):=fun R w1 h=>by rw [World.size_alloc] at h;exact h
  have I:=Zi n u (w.alloc Zo);go_wp2_with fail
  refine I.mono ?_;clear I;rintro e w1 ⟨rfl,rfl⟩;cases h1:ZM n with
  | true =>
   obtain ⟨R,o⟩:∃R,R=Z3 (x::r):=⟨_,rfl⟩;have m:=Yr (x::r) (w.alloc Zo) (by omega) H.out
   rw [←o] at m;have D:Hid (Z5 (x::r)=R):=show _=_ by rw [y.out,if_pos h1,o]
   unfold zy at m
   clear o;go_wp2_with fail
   refine m.mono ?_;clear m;rintro e w1 ⟨rfl,c⟩;have b:=z.out R w1 c;obtain ⟨q,B⟩:=ZD b;have E:Hid (Below w.heap.size w w1):=F.out.trans (b.mono (by omega))
   clear c b;go_wp2
   refine bodyPost_ret (v:=zy R) (by simp [results,Tryz.results53,go_sem,zy,q]) rfl ⟨by rw [D.out],?_⟩
   exact zJ E.out _ _ _ _ _
  | false =>
   have M:=ZS n u (w.alloc Zo);go_wp2_with fail
   refine M.mono ?_;clear M;rintro e w1 ⟨rfl,rfl⟩;cases h2:zz n with
   | true =>
    obtain ⟨R,o⟩:∃R,R=xl (x::r):=⟨_,rfl⟩;have m:=yN (x::r) (w.alloc Zo) (by omega) (U.out h2) H.out
    rw [←o] at m;have D:Hid (Z5 (x::r)=R):=show _=_ by rw [y.out,if_neg (by rw [h1];simp),if_pos h2,o]
    unfold zy at m
    clear o;go_wp2_with fail
    refine m.mono ?_;clear m;rintro e w1 ⟨rfl,c⟩;have b:=z.out R w1 c;obtain ⟨q,B⟩:=ZD b;have E:Hid (Below w.heap.size w w1):=F.out.trans (b.mono (by omega))
    clear c b;go_wp2
    refine bodyPost_ret (v:=zy R) (by simp [results,Tryz.results53,go_sem,zy,q]) rfl ⟨by rw [D.out],?_⟩
    exact zJ E.out _ _ _ _ _
   | false =>
    by_cases h34:n=34
    ·obtain ⟨R,o⟩:∃R,R=ZC (x::r):=⟨_,rfl⟩
     have m:=Yu (x::r) (w.alloc Zo) (by omega) (by simp) H.out
     rw [←o] at m;have D:Hid (Z5 (x::r)=R):=show _=_ by rw [y.out,if_neg (by rw [h1];simp),if_neg (by rw [h2];simp),if_pos h34,o]
     subst h34
     unfold zy at m
     clear o;go_wp2_with fail
     refine m.mono ?_;clear m;rintro e w1 ⟨rfl,c⟩;have b:=z.out R w1 c;obtain ⟨q,B⟩:=ZD b;have E:Hid (Below w.heap.size w w1):=F.out.trans (b.mono (by omega))
     clear c b;go_wp2
     refine bodyPost_ret (v:=zy R) (by simp [results,Tryz.results53,go_sem,zy,q]) rfl ⟨by rw [D.out],?_⟩
     exact zJ E.out _ _ _ _ _
    ·obtain ⟨R,o⟩:∃R,R=yG (x::r):=⟨_,rfl⟩
     have K:((n:Int)==34)=false:=by rw [beq_eq_false_iff_ne];omega
     have m:=Ys (x::r) (w.alloc Zo) H.out;rw [←o] at m;have D:Hid (Z5 (x::r)=R):=show _=_ by rw [y.out,if_neg (by rw [h1];simp),if_neg (by rw [h2];simp),if_neg h34,o]
     unfold zy at m
     clear o;go_wp2_with fail
     refine m.mono ?_;clear m;rintro e w1 ⟨rfl,c⟩;have b:=z.out R w1 c;obtain ⟨q,B⟩:=ZD b;have E:Hid (Below w.heap.size w w1):=F.out.trans (b.mono (by omega))
     clear c b;go_wp2
     refine bodyPost_ret (v:=zy R) (by simp [results,Tryz.results53,go_sem,zy,q]) rfl ⟨by rw [D.out],?_⟩
     exact zJ E.out _ _ _ _ _
end Go.Proofs.YtbjndgachcdbcaaGreatDoor

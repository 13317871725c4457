import Derived.Test.YtbjndgachcdbcaaGreatDoorMC1
import Derived.Test.YtbjndgachcdbcaaGreatDoorWAll
import Derived.Deep.MidRow
import Derived.LoopN
namespace Go.Proofs.YtbjndgachcdbcaaGreatDoor
open Go.RowKit
set_option maxHeartbeats 16000000
set_option maxRecDepth 100000
structure TR where
 k:Nat
 s:List UInt8
 n:Nat
 sz:Nat
 e:Nat
def zE (r:TR):Value:=.tuple #[.agg #[.int .i64 r.k,.string (za r.s),.int .i64 r.n,.int .i64 0,.int .i64 0],.int .i64 r.sz,.int .i64 r.e]
def ZI (l:List UInt8):List UInt8:=l.takeWhile fun c=>xu c.toNat
def yw (l:List UInt8):TR:=if ZN (ZI l)=true then ⟨5,ZI l,0,(ZI l).length,0⟩ else if 20<(ZI l).length then ⟨0,[],0,0,5⟩ else ⟨1,ZI l,0,(ZI l).length,0⟩
theorem Xq (p:UInt8→Bool) (l:List UInt8):l.take (l.takeWhile p).length=l.takeWhile p:=by
 induction l with
 | nil=>rfl
 | cons x l ih =>
  by_cases h:p x=true
  ·simp [h,ih]
  ·simp [h]
theorem ue (l:List UInt8):(ZI l).length≤l.length:=(List.takeWhile_sublist _).length_le
theorem Zi.alloc {w:World} (h:Zi w) (o:Obj):Zi (w.alloc o) :=
 ⟨fun j hj=>Lib.cell?_alloc_some o (h.words j hj),fun j hj=>Lib.cell?_alloc_some o (h.signs j hj),fun j hj=>Lib.cell?_alloc_some o (h.escs j hj),by obtain ⟨a,b,c⟩:=h.range;exact ⟨a,b,Lib.cell?_alloc_some o c⟩⟩
theorem Zi.below {w w':World} {B:Nat} (h:Zi w) (hb:Below B w w') (hB:w.heap.size≤B):Zi w':=by
 have e:∀{p:Addr} {v:Value},w.cell? p=some v→w'.cell? p=some v:=fun {p v} hp=>by
  rw [hb.cell (Nat.lt_of_lt_of_le (World.block_lt_of_cell? w _ hp) hB)];exact hp
 exact ⟨fun j hj=>e (h.words j hj),fun j hj=>e (h.signs j hj),fun j hj=>e (h.escs j hj),by obtain ⟨a,b,c⟩:=h.range;exact ⟨a,b,e c⟩⟩
theorem xc (l:List UInt8) (w:World) (hl:l.length≤9223372036854775000) (ht:Zi w) :
  Calls Tryz.prog 63 #[.string (za l)] w fun e w'=>e=.returned (zE (yw l))∧Below w.heap.size w w':=by
 have B:Hid (Zi w):=ht;have b:=ue l;obtain ⟨m,q⟩:∃m,m=(ZI l).length:=⟨_,rfl⟩;rw [←q] at b;have c:=fun wx=>vg wx l m b
 rw [show l.take m=ZI l by rw [q];exact Xq _ l] at c
 have u:Hid (m=(ZI l).length):=q;clear ht
 have D:Hid (∀wx,Calls Tryz.prog 80 #[.string (za l),.func (.func 81) #[] #[]] wx fun e w'=>e=.returned (.int .i64 m)∧wx=w'):=fun wx=>by
  rw [q];exact ub l wx hl
 have A:Hid (∀wx,Zi wx→Calls Tryz.prog 82 #[.string (za (ZI l))] wx fun e w'=>e=.returned (.bool (ZN (ZI l)))∧wx=w'):=fun wx h=>ud _ wx h
 clear q;have E:=(Below.refl w.heap.size w).alloc (Nat.le_refl _);obtain ⟨x,z⟩:∃x,x=ZI l:=⟨_,rfl⟩;rw [←z] at c A u;have y:Hid (x=ZI l):=z;clear z
 go_enter Tryz.func63,Tryz.ntmps63
 go_wp2_with fail
 refine (D.out _).mono ?_;rintro e w1 ⟨rfl,rfl⟩;go_wp2_with fail
 refine (A.out _ (B.out.alloc _)).mono ?_;rintro e w1 ⟨rfl,rfl⟩;cases hq:ZN x with
 | true =>
  have o:Hid (yw l=⟨5,x,0,m,0⟩):=by unfold yw;rw [←y.out,if_pos hq,←u.out];rfl
  go_wp2
  refine bodyPost_ret (v:=zE ⟨5,x,0,m,0⟩) (by simp [results,Tryz.results63,go_sem,zE]) rfl ⟨by rw [o.out],?_⟩
  exact (Below.refl w.heap.size w).alloc (Nat.le_refl _) _
 | false =>
  by_cases h20:20<m
  ·have o:Hid (yw l=⟨0,[],0,0,5⟩):=by unfold yw;rw [←y.out,if_neg (by rw [hq];simp),if_pos (by rw [←u.out];exact h20)];rfl
   go_wp2
   refine bodyPost_ret (v:=zE ⟨0,[],0,0,5⟩) (by simp [results,Tryz.results63,go_sem,zE]) rfl ⟨by rw [o.out],?_⟩
   exact (Below.refl w.heap.size w).alloc (Nat.le_refl _) _
  ·have o:Hid (yw l=⟨1,x,0,m,0⟩):=by unfold yw;rw [←y.out,if_neg (by rw [hq];simp),if_neg (by rw [←u.out];exact h20),←u.out];rfl
   go_wp2
   refine bodyPost_ret (v:=zE ⟨1,x,0,m,0⟩) (by simp [results,Tryz.results63,go_sem,zE]) rfl ⟨by rw [o.out],?_⟩
   exact (Below.refl w.heap.size w).alloc (Nat.le_refl _) _
def valA (acc:Nat):List UInt8→Nat
 | []=>acc
 | c::r=>valA (acc*10+(c.toNat-48)) r
theorem v7:∀(r:List UInt8) (acc:Nat),acc≤valA acc r
 | [],_=>Nat.le_refl _
 | c::r,acc=>Nat.le_trans (by omega) (v7 r (acc*10+(c.toNat-48)))
theorem xS (ds:List UInt8):∀(b:Nat),(∀c∈ds,zF c.toNat=true)→b<18446744073709551616 →
  Lib.parseUint10 b ds=if valA b ds<18446744073709551616 then .ok (valA b ds) else .range:=by
 induction ds with
 | nil =>
  intro b _ m;rw [show valA b []=b from rfl,if_pos m]
  rfl
 | cons c r ih =>
  intro b h m;have e:=h c (List.mem_cons_self ..)
  unfold zF at e
  rw [Bool.and_eq_true,decide_eq_true_eq,decide_eq_true_eq] at e;have o:=v7 r (b*10+(c.toNat-48));rw [show valA b (c::r)=valA (b*10+(c.toNat-48)) r from rfl]
  unfold Lib.parseUint10
  rw [if_pos e]
  by_cases h1:1844674407370955162≤b
  ·rw [if_pos h1,if_neg (by omega)]
  ·rw [if_neg h1]
   by_cases h2:18446744073709551616≤b*10+(c.toNat-48)
   ·rw [if_pos h2,if_neg (by omega)]
   ·rw [if_neg h2]
    exact ih _ (fun d hd=>h d (List.mem_cons_of_mem _ hd)) (by omega)
theorem Xr {ds:List UInt8} (h:∀c∈ds,zF c.toNat=true) (hne:ds≠[]) :
  Lib.atoiAll ds=if valA 0 ds<9223372036854775808 then .ok (valA 0 ds:Int) else .range:=by
 cases ds with
 | nil=>exact absurd rfl hne
 | cons c r =>
  have b:=h c (List.mem_cons_self ..)
  unfold zF at b
  rw [Bool.and_eq_true,decide_eq_true_eq,decide_eq_true_eq] at b;have q:¬ (c.toNat=43∨c.toNat=45):=by omega
  have e:¬ c.toNat=45:=by omega
  have m:Lib.parseMag (c::r)=if valA 0 (c::r)<18446744073709551616 then .ok (valA 0 (c::r)) else .range:=by
   unfold Lib.parseMag;rw [if_neg (by simp)];exact xS _ 0 h (by omega)
  generalize valA 0 (c::r)=v at m ⊢;have o:(if c.toNat=43∨c.toNat=45 then r else c::r)=c::r:=if_neg q
  unfold Lib.atoiAll
  simp only [o];rw [m]
  by_cases h3:v<18446744073709551616
  ·rw [if_pos h3]
   by_cases h4:v<9223372036854775808
   ·simp only
    rw [if_neg (by omega),if_neg (by omega),if_neg e,if_pos h4]
   ·simp only
    rw [if_pos ⟨e,by omega⟩,if_neg h4]
  ·rw [if_neg h3,if_neg (by omega)]
theorem Va {p:UInt8→Bool}:∀(l:List UInt8) (c:UInt8),c∈l.takeWhile p→p c=true
 | [],c,h=>by simp at h
 | x::l,c,h=>by
  by_cases hx:p x=true
  ·rw [List.takeWhile_cons_of_pos hx] at h
   rcases List.mem_cons.1 h with rfl | h
   ·exact hx
   ·exact Va l c h
  ·rw [List.takeWhile_cons_of_neg hx] at h
   simp at h
def digL (l:List UInt8):List UInt8:=l.takeWhile fun c=>zF c.toNat
def Xs (l:List UInt8):TR:=if valA 0 (digL l)<9223372036854775808 then ⟨2,[],valA 0 (digL l),(digL l).length,0⟩ else ⟨0,[],0,0,5⟩
theorem uX (l:List UInt8):(digL l).length≤l.length:=(List.takeWhile_sublist _).length_le
theorem uf (l:List UInt8):∀c∈digL l,zF c.toNat=true:=fun c hc=>Va (p:=fun c=>zF c.toNat) l c hc
theorem Yw (l:List UInt8) (w:World) (hl:l.length≤140737488351232) (hne:digL l≠[]) (ht:Zi w) :
  Calls Tryz.prog 65 #[.string (za l)] w fun e w'=>e=.returned (zE (Xs l))∧Below w.heap.size w w':=by
 have V:Hid (Zi w):=ht;have z:=uX l;obtain ⟨m,E⟩:∃m,m=(digL l).length:=⟨_,rfl⟩;rw [←E] at z;have A:=fun wx=>vg wx l m z
 rw [show l.take m=digL l by rw [E];exact Xq _ l] at A
 have F:Hid (m=(digL l).length):=E;have M:m≤140737488351232:=by omega
 clear ht
 have W:Hid (∀wx,Calls Tryz.prog 80 #[.string (za l),.func (.func 64) #[] #[]] wx fun e w'=>e=.returned (.int .i64 m)∧wx=w'):=fun wx=>by
  rw [E];exact Vy l wx (by omega)
 have c:=Xr (uf l) hne;obtain ⟨x,J⟩:∃x,x=digL l:=⟨_,rfl⟩;rw [←J] at A F c;obtain ⟨v,G⟩:∃v,v=valA 0 x:=⟨_,rfl⟩;rw [←G] at c;have R:Hid (x=digL l):=J;have O:Hid (v=valA 0 x):=G;have D:Hid (Lib.atoiAll x=if v<9223372036854775808 then .ok (v:Int) else .range):=c
 clear J G c E
 go_enter Tryz.func65,Tryz.ntmps65
 go_wp2_with fail
 refine (W.out _).mono ?_;rintro e w1 ⟨rfl,rfl⟩
 by_cases h63:v<9223372036854775808
 ·have u:=fun wx=>Tryz.strconv_Atoi_ok (za x) (by rw [zu,←F.out];omega) v (by show Lib.atoiAll x=_;rw [D.out,if_pos h63]) wx
  have K:Hid (Xs l=⟨2,[],v,m,0⟩):=by unfold Xs;rw [←R.out,←O.out,if_pos h63,←F.out];rfl
  go_wp2_with fail
  refine (u _).mono ?_;clear u;rintro e w1 ⟨rfl,B⟩
  have b:Below (w.heap.size+1) (w.alloc (Obj.cells #[Value.int IntKind.i64 0,Value.string ⟨#[]⟩,Value.int IntKind.i64 0,Value.int IntKind.i64 0,Value.int IntKind.i64 0] 103)) w1:=by
   rcases B with rfl | ⟨t,rfl⟩
   ·exact Below.refl _ _
   ·have y:=Lib.bytesWorld_below (w.alloc (Obj.cells #[Value.int IntKind.i64 0,Value.string ⟨#[]⟩,Value.int IntKind.i64 0,Value.int IntKind.i64 0,Value.int IntKind.i64 0] 103)) 5 t
    rw [World.size_alloc] at y;exact y
  clear B
  obtain ⟨h,I⟩:(∀o,w1.cell? ⟨w.heap.size,o,none⟩=(w.alloc (Obj.cells #[Value.int IntKind.i64 0,Value.string ⟨#[]⟩,Value.int IntKind.i64 0,Value.int IntKind.i64 0,Value.int IntKind.i64 0] 103)).cell? ⟨w.heap.size,o,none⟩)∧(∀o,w1.frozen? ⟨w.heap.size,o,none⟩=(w.alloc (Obj.cells #[Value.int IntKind.i64 0,Value.string ⟨#[]⟩,Value.int IntKind.i64 0,Value.int IntKind.i64 0,Value.int IntKind.i64 0] 103)).frozen? ⟨w.heap.size,o,none⟩) :=
   ⟨fun o=>b.cell (p:=⟨w.heap.size,o,none⟩) (by simp),fun o=>b.frozen (p:=⟨w.heap.size,o,none⟩) (by simp)⟩
  have H:Hid (Below w.heap.size w w1):=((Below.refl w.heap.size w).alloc (Nat.le_refl _) _).trans (b.mono (by omega))
  clear b;go_wp2
  refine bodyPost_ret (v:=zE ⟨2,[],v,m,0⟩) (by simp [results,Tryz.results65,go_sem,zE,h]) rfl ⟨by rw [K.out],?_⟩
  exact ((((H.out.setCell (p:=⟨w.heap.size,0,none⟩) (Nat.le_refl _) _).setCell (p:=⟨w.heap.size,1,none⟩) (Nat.le_refl _) _).setCell (p:=⟨w.heap.size,2,none⟩) (Nat.le_refl _) _).setCell (p:=⟨w.heap.size,3,none⟩) (Nat.le_refl _) _).setCell (p:=⟨w.heap.size,4,none⟩) (Nat.le_refl _) _
 ·obtain ⟨T,U,q⟩:=V.out.range
  have u:=Tryz.strconv_Atoi_range (za x) (by rw [zu,←F.out];omega) (by show Lib.atoiAll x=_;rw [D.out,if_neg h63]) (.iface T U) (w.alloc (Obj.cells #[Value.int IntKind.i64 0,Value.string ⟨#[]⟩,Value.int IntKind.i64 0,Value.int IntKind.i64 0,Value.int IntKind.i64 0] 103)) (Lib.cell?_alloc_some _ q) (.inr ⟨T,U,rfl⟩)
  have K:Hid (Xs l=⟨0,[],0,0,5⟩):=by unfold Xs;rw [←R.out,←O.out,if_neg h63];rfl
  go_wp2_with fail
  refine u.mono ?_;clear u;rintro e w1 ⟨X,rfl,-,-,b⟩;rw [World.size_alloc] at b
  obtain ⟨h,I⟩:(∀o,w1.cell? ⟨w.heap.size,o,none⟩=(w.alloc (Obj.cells #[Value.int IntKind.i64 0,Value.string ⟨#[]⟩,Value.int IntKind.i64 0,Value.int IntKind.i64 0,Value.int IntKind.i64 0] 103)).cell? ⟨w.heap.size,o,none⟩)∧(∀o,w1.frozen? ⟨w.heap.size,o,none⟩=(w.alloc (Obj.cells #[Value.int IntKind.i64 0,Value.string ⟨#[]⟩,Value.int IntKind.i64 0,Value.int IntKind.i64 0,Value.int IntKind.i64 0] 103)).frozen? ⟨w.heap.size,o,none⟩) :=
   ⟨fun o=>b.cell (p:=⟨w.heap.size,o,none⟩) (by simp),fun o=>b.frozen (p:=⟨w.heap.size,o,none⟩) (by simp)⟩
  have H:Hid (Below w.heap.size w w1):=((Below.refl w.heap.size w).alloc (Nat.le_refl _) _).trans (b.mono (by omega))
  clear b q;go_wp2
  refine bodyPost_ret (v:=zE ⟨0,[],0,0,5⟩) (by simp [results,Tryz.results65,go_sem,zE,h]) rfl ⟨by rw [K.out],?_⟩
  exact ((((H.out.setCell (p:=⟨w.heap.size,0,none⟩) (Nat.le_refl _) _).setCell (p:=⟨w.heap.size,1,none⟩) (Nat.le_refl _) _).setCell (p:=⟨w.heap.size,2,none⟩) (Nat.le_refl _) _).setCell (p:=⟨w.heap.size,3,none⟩) (Nat.le_refl _) _).setCell (p:=⟨w.heap.size,4,none⟩) (Nat.le_refl _) _
def longer (l best x:List UInt8):List UInt8:=if best.length<x.length∧Lib.hasPrefix l x=true then x else best
def Zd (l:List UInt8) (n:Nat):List UInt8:=(signsL.take n).foldl (longer l) []
def Yn (l:List UInt8):TR:=if Zd l 25=[] then ⟨0,[],0,0,6⟩ else ⟨4,Zd l 25,0,(Zd l 25).length,0⟩
theorem vp (l:List UInt8) (n:Nat) (h:n<signsL.length):Zd l (n+1)=longer l (Zd l n) signsL[n]:=by
 unfold Zd;rw [List.take_succ_eq_append_getElem h,List.foldl_append];rfl
theorem VB (l:List UInt8) (n:Nat):(Zd l n).length≤2:=by
 have m:∀(c:List (List UInt8)) (b:List UInt8),(∀x∈c,x.length≤2)→b.length≤2→(c.foldl (longer l) b).length≤2:=by
  intro c
  induction c with
  | nil=>intro b _ h;exact h
  | cons x c ih =>
   intro b e h;refine ih _ (fun y hy=>e y (List.mem_cons_of_mem _ hy)) ?_
   unfold longer
   split
   ·exact e x (List.mem_cons_self ..)
   ·exact h
 exact m _ _ (fun x e=>by
  have:∀x∈signsL,x.length≤2:=by decide
  exact this x (List.mem_of_mem_take e)) (by simp)
def yU:List Value:=signsL.map fun x=>.string (za x)
def signsV:Value:=.agg yU.toArray
theorem Xt {w:World} (ht:Zi w):w.rangeAt 2 0 yU:=fun j v hv=>by
 unfold yU at hv
 rw [List.getElem?_map] at hv;rcases Nat.lt_or_ge j signsL.length with h | h
 ·rw [List.getElem?_eq_getElem h] at hv
  simp only [Option.map_some,Option.some.injEq] at hv;rw [Nat.zero_add,ht.signs j h,hv]
 ·rw [List.getElem?_eq_none h] at hv;cases hv
theorem vq:(Tryz.prog.info? 140).map (·.size)=some yU.length:=by kernel_rfl
theorem xd (l:List UInt8) (w:World) (ht:Zi w) :
  Calls Tryz.prog 67 #[.string (za l)] w fun e w'=>e=.returned (zE (Yn l))∧Below w.heap.size w w':=by
 have J:Hid (Zi w):=ht;clear ht
 go_enter Tryz.func67,Tryz.ntmps67
 go_wp2_with (refine wpList_load_mid rfl 140 _ rfl 2 0 rfl yU _ (Xt (J.out.alloc _)) Tryz.underlying140 rfl vq ?_)
 have H:Hid (∀(wx:World) (i:Nat) (h:i<25),(Instr.index 140 signsV (.int .i64 (i:Int))).run Tryz.prog wx=.ok (.string (za (signsL[i]'h))) wx):=fun wx i h=>VA wx i h
 rw [show Value.agg yU.toArray=signsV from rfl]
 generalize signsV=A at *
 go_loop [5,9] (fun vb v=>∃i:Nat,i≤25∧v=.int .i64 i∧vb=.string (za (Zd l i))) (fun _ v=>25-(intOf v).toNat)
 case atStart=>exact ⟨0,Nat.zero_le _,rfl,rfl⟩
 case round =>
  obtain ⟨i,M,rfl,rfl⟩:=hrel;have z:=VB l i;obtain ⟨b,B⟩:∃b,b=Zd l i:=⟨_,rfl⟩;rw [←B] at z ⊢;have D:Hid (b=Zd l i):=B;clear B
  by_cases hlt:i<25
  ·have o:=fun wx=>H.out wx i hlt
   obtain ⟨x,q⟩:∃x,x=signsL[i]'hlt:=⟨_,rfl⟩;rw [←q] at o
   have I:x.length≤2:=by
    have:∀x∈signsL,x.length≤2:=by decide
    rw [q];exact this _ (List.getElem_mem _)
   have G:Hid (Zd l (i+1)=longer l b x):=show Zd l (i+1)=longer l b x by rw [vp l i hlt,D.out,q]
   have K:(za x).size=x.length:=rfl;have E:(za b).size=b.length:=rfl;clear q
   by_cases hlen:b.length<x.length
   ·have u:=fun wx=>Tryz.strings_HasPrefix (za l) (za x) wx
    cases hp:Lib.hasPrefix l x with
    | true =>
     have m:Lib.hasPrefix (za l).data.toList (za x).data.toList=true:=hp;rw [m] at u;have c:Hid (Zd l (i+1)=x):=show Zd l (i+1)=x by rw [G.out];unfold longer;rw [if_pos ⟨hlen,hp⟩]
     clear m;go_wp2_with (go_at_call 85;refine (u _).mono ?_;rintro e w1 ⟨rfl,rfl⟩)
     refine ⟨⟨i+1,by omega,by go_num,by rw [c.out]⟩,by simp [intOf];omega⟩
    | false =>
     have m:Lib.hasPrefix (za l).data.toList (za x).data.toList=false:=hp;rw [m] at u;have c:Hid (Zd l (i+1)=b):=show Zd l (i+1)=b by rw [G.out];unfold longer;rw [if_neg (fun h=>by rw [hp] at h;exact absurd h.2 (by decide))]
     clear m;go_wp2_with (go_at_call 85;refine (u _).mono ?_;rintro e w1 ⟨rfl,rfl⟩)
     refine ⟨⟨i+1,by omega,by go_num,by rw [c.out]⟩,by simp [intOf];omega⟩
   ·have c:Hid (Zd l (i+1)=b):=show Zd l (i+1)=b by rw [G.out];unfold longer;rw [if_neg (fun h=>hlen h.1)]
    go_wp2
    refine ⟨⟨i+1,by omega,by go_num,by rw [c.out]⟩,by simp [intOf];omega⟩
  ·obtain rfl:i=25:=by omega
   have E:(za b).size=b.length:=rfl;cases b with
   | nil =>
    have F:Hid (Yn l=⟨0,[],0,0,6⟩):=by unfold Yn;rw [←D.out,if_pos rfl];rfl
    go_wp2
    refine bodyPost_ret (v:=zE ⟨0,[],0,0,6⟩) (by simp [results,Tryz.results67,go_sem,zE]) rfl ⟨by rw [F.out],?_⟩
    exact (Below.refl w.heap.size w).alloc (Nat.le_refl _) _
   | cons y ys =>
    have F:Hid (Yn l=⟨4,y::ys,0,(y::ys).length,0⟩):=by unfold Yn;rw [←D.out,if_neg (by simp)];rfl
    go_wp2
    refine bodyPost_ret (v:=zE ⟨4,y::ys,0,(y::ys).length,0⟩) (by simp [results,Tryz.results67,go_sem,zE]) rfl ⟨by rw [F.out],?_⟩
    exact (Below.refl w.heap.size w).alloc (Nat.le_refl _) _
def YF:List UInt8→Nat × Nat
 | []=>(0,0)
 | x::r=>if x.toNat<32∨126<x.toNat then (0,0) else if x.toNat≠92 then (x.toNat,1) else
  match r with
  | []=>(0,0)
  | y::_=>if y.toNat=92 then (92,2) else if y.toNat=34 then (34,2) else if y.toNat=110 then (10,2) else (0,0)
theorem xT (w:World) (l:List UInt8) (i:Nat) (h:i<l.length):(Instr.index 9 (.string (za l)) (.int .i64 (i:Int))).run Tryz.prog w=.ok (.int .u8 ((l[i]).toNat:Int)) w:=by
 rw [run_index_string (P:=Tryz.prog) (w:=w) 9 (za l) .i64 _ Tryz.underlying9,dif_pos ⟨by omega,by rw [zu];omega⟩]
 simp only [Int.toNat_natCast]
 rfl
theorem xw {a:Nat × Nat} {c k:Nat} (h:a=(c,k)):(Ending.returned (.tuple #[.int .u8 (c:Int),.int .i64 (k:Int)]):Ending)=.returned (.tuple #[.int .u8 (a.1:Int),.int .i64 (a.2:Int)]):=by rw [h]
theorem Vb {x:UInt8} {r:List UInt8} (h:x.toNat<32∨126<x.toNat):YF (x::r)=(0,0):=by
 show (if _ then _ else _)=_;rw [if_pos h]
theorem Vc {x:UInt8} {r:List UInt8} (h:¬ (x.toNat<32∨126<x.toNat)) (h2:x.toNat≠92):YF (x::r)=(x.toNat,1):=by
 show (if _ then _ else _)=_;rw [if_neg h,if_pos h2]
theorem Vd {x:UInt8} (h:¬ (x.toNat<32∨126<x.toNat)) (h2:x.toNat=92):YF [x]=(0,0):=by
 show (if _ then _ else _)=_;rw [if_neg h,if_neg (by omega)]
def UN (m:Nat):Nat × Nat:=if m=92 then (92,2) else if m=34 then (34,2) else if m=110 then (10,2) else (0,0)
theorem Ve {x y:UInt8} {t:List UInt8} (h:¬ (x.toNat<32∨126<x.toNat)) (h2:x.toNat=92):YF (x::y::t)=UN y.toNat:=by
 show (if _ then _ else _)=_;rw [if_neg h,if_neg (by omega)];rfl
def Yx:List Nat:=[92,34,110]
def xf:List Nat:=[92,34,10]
theorem UA {m i:Nat} (hi:i<3) (h:∀j (hj:j<3),j<i→(Yx[j]'hj)≠m) (he:(Yx[i]'hi)=m):UN m=((xf[i]'hi),2):=by
 have b:i=0∨i=1∨i=2:=by omega
 rcases b with rfl | rfl | rfl
 ·rw [←he];rfl
 ·rw [←he];rfl
 ·rw [←he];rfl
theorem uY {m:Nat} (h:∀j (hj:j<3),(Yx[j]'hj)≠m):UN m=(0,0):=by
 have b:92≠m:=h 0 (by decide)
 have c:34≠m:=h 1 (by decide)
 have e:110≠m:=h 2 (by decide)
 unfold UN
 rw [if_neg (by omega),if_neg (by omega),if_neg (by omega)]
theorem Xu (w:World) (i:Nat) (h:i<3):(Instr.index 151 (.agg #[.int .u8 92,.int .u8 92,.int .u8 34,.int .u8 34,.int .u8 10,.int .u8 110]) (.int .i64 (i:Int))).run Tryz.prog w=.ok (.agg #[.int .u8 ((xf[i]'h:Nat):Int),.int .u8 ((Yx[i]'h:Nat):Int)]) w:=by
 have b:i=0∨i=1∨i=2:=by omega
 rcases b with rfl | rfl | rfl
 all_goals rfl
theorem xU (x:UInt8) (r:List UInt8) (w:World) (hl:r.length≤9223372036854775000) (ht:Zi w) :
  Calls Tryz.prog 84 #[.string (za (x::r))] w fun e w'=>e=.returned (.tuple #[.int .u8 (YF (x::r)).1,.int .i64 (YF (x::r)).2])∧Below w.heap.size w w':=by
 have J:=fun wx=>xT wx (x::r) 0 (by simp)
 rw [show ((0:Nat):Int)=0 from rfl,show (x::r)[0]=x from rfl] at J
 have o:(za (x::r)).size=r.length+1:=rfl;obtain ⟨n,c⟩:∃n,n=x.toNat:=⟨_,rfl⟩;have O:n<256:=by rw [c];exact UInt8.toNat_lt x
 rw [←c] at J;obtain ⟨S,D⟩:∃S,S=za (x::r):=⟨_,rfl⟩;rw [←D] at J o ⊢;have W:=ht.escs 0 (by decide)
 have X:=ht.escs 1 (by decide)
 have Z:=ht.escs 2 (by decide)
 have e3:=ht.escs 3 (by decide)
 have Y:=ht.escs 4 (by decide)
 have e5:=ht.escs 5 (by decide)
 simp only [List.getElem_cons_zero,List.getElem_cons_succ] at W X Z e3 Y e5;clear ht
 by_cases hbad:n<32∨126<n
 ·have q:Hid (YF (x::r)=(0,0)):=Vb (by rw [←c];exact hbad)
  clear D c;rcases hbad with A | A
  ·go_enter Tryz.func84,Tryz.ntmps84
   go_wp2
   go_ret2
   exact ⟨xw q.out,Below.refl _ _⟩
  ·go_enter Tryz.func84,Tryz.ntmps84
   go_wp2
   go_ret2
   exact ⟨xw q.out,Below.refl _ _⟩
 ·by_cases h92:n=92
  ·cases r with
   | nil =>
    have q:Hid (YF [x]=(0,0)):=Vd (by rw [←c];exact hbad) (by rw [←c];exact h92)
    have T:S.size=1:=o;clear D c hbad o;subst h92
    go_enter Tryz.func84,Tryz.ntmps84
    go_wp2
    go_ret2
    exact ⟨xw q.out,Below.refl _ _⟩
   | cons y t =>
    have R:=fun wx=>xT wx (x::y::t) 1 (by simp)
    rw [show ((1:Nat):Int)=1 from rfl,show (x::y::t)[1]=y from rfl] at R
    obtain ⟨m,H⟩:∃m,m=y.toNat:=⟨_,rfl⟩;have K:m<256:=by rw [H];exact UInt8.toNat_lt y
    rw [←H,←D] at R;have E:Hid (YF (x::y::t)=UN m):=show _=_ by rw [H];exact Ve (by rw [←c];exact hbad) (by rw [←c];exact h92)
    have V:S.size=t.length+2:=o;have U:((t.length:Int)+2==1)=false:=by rw [beq_eq_false_iff_ne];omega
    have ae:t.length+1≤9223372036854775000:=by simpa using hl
    clear D c hbad o H hl;subst h92
    go_enter Tryz.func84,Tryz.ntmps84
    go_wp2
    clear W X Z e3 Y e5
    go_loopw [26] (fun v wr=>∃i:Nat,i≤3∧v=.int .i64 i∧(∀j (hj:j<3),j<i→(Yx[j]'hj)≠m)∧Below w.heap.size w wr) (fun v _=>3-(intOf v).toNat)
    case atStart=>exact ⟨0,Nat.zero_le _,rfl,fun j _ h=>by omega,Below.refl _ _⟩
    case round =>
     obtain ⟨i,hi,rfl,z,B⟩:=hrel;have I:Hid (∀j (hj:j<3),j<i→(Yx[j]'hj)≠m):=z;have M:Hid (Below w.heap.size w wr):=B;have u:=B.size;clear z B
     by_cases hlt:i<3
     ·have F:=fun wx=>Xu wx i hlt
      obtain ⟨a,G⟩:∃a,a=xf[i]'hlt:=⟨_,rfl⟩;obtain ⟨b,A⟩:∃b,b=Yx[i]'hlt:=⟨_,rfl⟩;rw [←G,←A] at F
      by_cases he:b=m
      ·have q:Hid (YF (x::y::t)=(a,2)):=show _=_ by rw [E.out,G];exact UA hlt I.out (by rw [←A];exact he)
       subst he;clear G A;go_wp2
       go_quiet (fail)
       go_wp2
       go_ret2
       refine ⟨xw q.out,?_⟩;exact (M.out.alloc u _).trans ⟨rfl,rfl,rfl,Nat.le_refl _,fun _ _=>rfl⟩
      ·have ab:((b:Int)==(m:Int))=false:=by rw [beq_eq_false_iff_ne];omega
       have HE:Hid ((Yx[i]'hlt)≠m):=show (Yx[i]'hlt)≠m by rw [←A];exact he
       clear G A he;go_wp2
       go_quiet (fail)
       go_wp2
       refine ⟨⟨i+1,by omega,by go_num,fun j hj hji=>?_,(M.out.alloc u _).trans ⟨rfl,rfl,rfl,Nat.le_refl _,fun _ _=>rfl⟩⟩,by simp [intOf];omega⟩
       by_cases h:j<i
       ·exact I.out j hj h
       ·obtain rfl:j=i:=by omega
        exact HE.out
     ·obtain rfl:i=3:=by omega
      have q:Hid (YF (x::y::t)=(0,0)):=show _=_ by rw [E.out];exact uY (fun j hj=>I.out j hj hj)
      go_wp2
      go_ret2
      exact ⟨xw q.out,M.out⟩
  ·have q:Hid (YF (x::r)=(n,1)):=show YF (x::r)=(n,1) by rw [c];exact Vc (by rw [←c];exact hbad) (by rw [←c];exact h92)
   have ad:32≤n:=by omega
   have aa:n≤126:=by omega
   clear D c hbad
   go_enter Tryz.func84,Tryz.ntmps84
   go_wp2
   go_ret2
   exact ⟨xw q.out,Below.refl _ _⟩
def YM:Nat→List UInt8→Nat→List UInt8→TR
 | 0,_,_,_=>⟨0,[],0,0,6⟩
 | _+1,_,_,[]=>⟨0,[],0,0,6⟩
 | f+1,meant,at0,x::r=>if x.toNat=34 then ⟨3,meant,0,at0+1,0⟩ else if (YF (x::r)).2=0 then ⟨0,[],0,0,6⟩ else if meant.length=255 then ⟨0,[],0,0,5⟩
  else YM f (meant++[(YF (x::r)).1.toUInt8]) (at0+(YF (x::r)).2) ((x::r).drop (YF (x::r)).2)
def ZU (l:List UInt8):TR:=YM l.length [] 1 (l.drop 1)
theorem UB (l:List UInt8):(YF l).2≤l.length∧(YF l).1<256:=by
 cases l with
 | nil=>exact ⟨Nat.le_refl _,by decide⟩
 | cons x r =>
  by_cases h:x.toNat<32∨126<x.toNat
  ·rw [Vb h];simp
  ·by_cases h2:x.toNat=92
   ·cases r with
    | nil=>rw [Vd h h2];simp
    | cons y t =>
     rw [Ve h h2]
     unfold UN
     split
     ·simp
     ·split
      ·simp
      ·split <;> simp
   ·rw [Vc h h2]
    have:=UInt8.toNat_lt x
    simp;omega
abbrev ZF:Obj:=Obj.cells #[Value.int IntKind.i64 0,Value.string ⟨#[]⟩,Value.int IntKind.i64 0,Value.int IntKind.i64 0,Value.int IntKind.i64 0] 103
theorem ZV {w w1:World} (hb:Below (w.heap.size+1) (w.alloc ZF) w1) :
  (∀o,w1.cell? ⟨w.heap.size,o,none⟩=(w.alloc ZF).cell? ⟨w.heap.size,o,none⟩)∧(∀o,w1.frozen? ⟨w.heap.size,o,none⟩=(w.alloc ZF).frozen? ⟨w.heap.size,o,none⟩) :=
 ⟨fun o=>hb.cell (p:=⟨w.heap.size,o,none⟩) (by simp),fun o=>hb.frozen (p:=⟨w.heap.size,o,none⟩) (by simp)⟩
theorem zN {w w1:World} (h:Below w.heap.size w w1) (a b c d e:Value) :
  Below w.heap.size w (((((w1.setCell ⟨w.heap.size,0,none⟩ a).setCell ⟨w.heap.size,1,none⟩ b).setCell ⟨w.heap.size,2,none⟩ c).setCell ⟨w.heap.size,3,none⟩ d).setCell ⟨w.heap.size,4,none⟩ e) :=
 ((((h.setCell (p:=⟨w.heap.size,0,none⟩) (Nat.le_refl _) _).setCell (p:=⟨w.heap.size,1,none⟩) (Nat.le_refl _) _).setCell (p:=⟨w.heap.size,2,none⟩) (Nat.le_refl _) _).setCell (p:=⟨w.heap.size,3,none⟩) (Nat.le_refl _) _).setCell (p:=⟨w.heap.size,4,none⟩) (Nat.le_refl _) _
theorem yV {w w':World} {B C e n:Nat} {v:Value} {xs:List Value} (h:w.ownsRow B e 1 v n xs) (hb:Below C w w') (hC:w.heap.size≤C):w'.ownsRow B e 1 v n xs :=
 h.kept (row:=none) ⟨hb.os,hb.tape,hb.output,hb.size,fun k hk _=>hb.block k (by omega)⟩ (by cases h':v.ownBlock <;> simp)
theorem xg (l:List UInt8) (w:World) (hl:l.length≤140737488351232) (hl1:1≤l.length) (ht:Zi w) :
  Calls Tryz.prog 66 #[.string (za l)] w fun e w'=>e=.returned (zE (ZU l))∧Below w.heap.size w w':=by
 have HT:Hid (Zi w):=ht;have az:(za l).size=l.length:=rfl;have hA:Below w.heap.size w (w.alloc ZF):=(Below.refl w.heap.size w).alloc (Nat.le_refl _) _;have HA:Hid (Below w.heap.size w (w.alloc ZF)):=hA;clear ht hA
 go_enter Tryz.func66,Tryz.ntmps66
 go_wp2
 go_loopw [5,6] (fun vm va wr=>∃(f at0:Nat) (b:List UInt8),va=.int .i64 at0∧at0≤l.length∧l.length≤at0+f∧b.length≤255∧ZU l=YM f b at0 (l.drop at0) ∧
   wr.ownsRow (w.heap.size+1) 5 1 vm b.length (Lib.byteCells b)∧Below (w.heap.size+1) (w.alloc ZF) wr) (fun _ a _=>l.length-(intOf a).toNat)
 case atStart=>exact ⟨l.length,1,[],rfl,hl1,by omega,by simp,rfl,World.ownsRow_nil _ _ _ _,Below.refl _ _⟩
 case round =>
  obtain ⟨f,at0,b,rfl,aA,ay,am,Y,M,D⟩:=hrel;have aa:Hid (ZU l=YM f b at0 (l.drop at0)):=Y;have ai:Hid (Below (w.heap.size+1) (w.alloc ZF) wr):=D;have HB:Hid (Below w.heap.size w wr):=HA.out.trans (D.mono (by omega))
  have O:=D.size;rw [World.size_alloc] at O;obtain ⟨y,ag⟩:=ZV D;have HO:Hid (wr.ownsRow (w.heap.size+1) 5 1 u5 b.length (Lib.byteCells b)):=M;clear Y D M
  by_cases hlt:at0<l.length
  ·obtain ⟨x,r,u⟩:∃x r,l.drop at0=x::r:=⟨l[at0],l.drop (at0+1),List.drop_eq_getElem_cons hlt⟩
   have ae:l[at0]=x:=by
    have h:=List.drop_eq_getElem_cons hlt;rw [u] at h;exact (List.cons.inj h).1.symm
   have K:=fun wx=>xT wx l at0 hlt
   rw [ae] at K;obtain ⟨n,hn⟩:∃n,n=x.toNat:=⟨_,rfl⟩;rw [←hn] at K;have aq:n<256:=by rw [hn];exact UInt8.toNat_lt x
   obtain ⟨X,rfl⟩:∃X,f=X+1:=⟨f-1,by omega⟩
   have ad:Hid (ZU l=if n=34 then ⟨3,b,0,at0+1,0⟩ else if (YF (x::r)).2=0 then ⟨0,[],0,0,6⟩ else if b.length=255 then ⟨0,[],0,0,5⟩ else YM X (b++[(YF (x::r)).1.toUInt8]) (at0+(YF (x::r)).2) ((x::r).drop (YF (x::r)).2)):=show _=_ by
    rw [aa.out,u,hn];rfl
   have al:=fun wx=>V9 wx l at0 (by omega)
   rw [u] at al;have Z:(x::r).length=l.length-at0:=by rw [←u,List.length_drop]
   have ar:Hid (l.drop at0=x::r):=u;clear ae hn u
   by_cases h34:n=34
   ·have J:Hid (ZU l=⟨3,b,0,at0+1,0⟩):=show _=_ by rw [ad.out,if_pos h34]
    subst h34;obtain ⟨o,z,rfl,B,-,-,-⟩:=ZH HO.out;have aB:=ZS wr o b z B;clear B;go_wp2
    refine bodyPost_ret (v:=zE ⟨3,b,0,at0+1,0⟩) (by simp [results,Tryz.results66,go_sem,zE,y]) rfl ⟨by rw [J.out],?_⟩
    exact zN HB.out _ _ _ _ _
   ·have ax:((n:Int)==34)=false:=by rw [beq_eq_false_iff_ne];omega
    have A:=UB (x::r);have cb:=xU x r wr (by simp at Z;omega) (HT.out.below HB.out (Nat.le_refl _))
    obtain ⟨c,G,R⟩:∃c G,YF (x::r)=(c,G):=⟨_,_,rfl⟩;rw [R] at cb A;simp only at A
    have T:Hid (ZU l=if G=0 then ⟨0,[],0,0,6⟩ else if b.length=255 then ⟨0,[],0,0,5⟩ else YM X (b++[c.toUInt8]) (at0+G) ((x::r).drop G)):=show _=_ by
     rw [ad.out,if_neg h34,R]
    clear R h34;go_wp2_with fail
    refine cb.mono ?_;clear cb y ag;rintro e w2 ⟨rfl,H⟩;have au:=H.size;have I:Below (w.heap.size+1) (w.alloc ZF) w2:=ai.out.trans (H.mono O);obtain ⟨y,ag⟩:=ZV I;have an:Hid (Below (w.heap.size+1) (w.alloc ZF) w2):=I;have aj:Hid (Below w.heap.size w w2):=HA.out.trans (I.mono (by omega))
    have U:Hid (w2.ownsRow (w.heap.size+1) 5 1 u5 b.length (Lib.byteCells b)):=yV HO.out H (Nat.le_refl _);clear H I HO ai
    by_cases hs0:G=0
    ·have J:Hid (ZU l=⟨0,[],0,0,6⟩):=show _=_ by rw [T.out,if_pos hs0]
     subst hs0;go_wp2
     refine bodyPost_ret (v:=zE ⟨0,[],0,0,6⟩) (by simp [results,Tryz.results66,go_sem,zE,y]) rfl ⟨by rw [J.out],?_⟩
     exact zN aj.out _ _ _ _ _
    ·have aw:((G:Int)==0)=false:=by rw [beq_eq_false_iff_ne];omega
     obtain ⟨o,z,rfl,-,-,-,-⟩:=ZH U.out;obtain ⟨W,m⟩:∃W,W=b.length:=⟨_,rfl⟩;have af:Hid (W=b.length):=m;rw [←m]
     by_cases h255:W=255
     ·have J:Hid (ZU l=⟨0,[],0,0,5⟩):=show _=_ by rw [T.out,if_neg hs0,if_pos (by rw [←m];exact h255)]
      clear m;subst h255;go_wp2
      refine bodyPost_ret (v:=zE ⟨0,[],0,0,5⟩) (by simp [results,Tryz.results66,go_sem,zE,y]) rfl ⟨by rw [J.out],?_⟩
      exact zN aj.out _ _ _ _ _
     ·have ao:((W:Int)==255)=false:=by rw [beq_eq_false_iff_ne];omega
      have J:Hid (ZU l=YM X (b++[c.toUInt8]) (at0+G) (l.drop (at0+G))):=show _=_ by
       rw [T.out,if_neg hs0,if_neg (by rw [←m];exact h255),←ar.out,List.drop_drop]
      have ab:Hid (w2.ownsRow (w.heap.size+1) 5 1 (.slice o W z) b.length (Lib.byteCells b)):=by rw [m];exact U.out
      have V:=A.2;have ah:=A.1;rw [Z] at ah;have av:b.length≤255:=am;clear m U A
      go_wp2_with (at_builtin;refine Zn rfl _ _ rfl (w.heap.size+1) _ b rfl (ab.out.alloc _) _ [c.toUInt8] rfl (yb V (by simp)) (by simp;omega) (by simp;omega) ?_)
      intro v3 w3 E F;have ap:Hid (Below (w.heap.size+1) (w.alloc ZF) w3):=(an.out.alloc (by omega) _).grown F (by simp;omega) (fun q hq=>(ab.out.lt q hq).1)
      have ak:Hid (w3.ownsRow (w.heap.size+1) 5 1 v3 (b++[c.toUInt8]).length (Lib.byteCells (b++[c.toUInt8]))):=by
       rw [show (b++[c.toUInt8]).length=b.length+1 by simp];exact E
      clear F E;go_wp2
      refine ⟨⟨X,at0+G,b++[c.toUInt8],by go_num,by omega,by omega,?_,J.out,ak.out,ap.out⟩,by simp [intOf];omega⟩
      rw [List.length_append,List.length_singleton,←af.out]
      have:=af.out
      omega
  ·obtain rfl:at0=l.length:=by omega
   have J:Hid (ZU l=⟨0,[],0,0,6⟩):=show _=_ by
    rw [aa.out,List.drop_length];cases f <;> rfl
   go_wp2
   refine bodyPost_ret (v:=zE ⟨0,[],0,0,6⟩) (by simp [results,Tryz.results66,go_sem,zE,y]) rfl ⟨by rw [J.out],?_⟩
   exact zN HB.out _ _ _ _ _
def yA (l:List UInt8):TR :=
 match l with
 | []=>⟨0,[],0,0,0⟩
 | x::_=>if Z5 x.toNat=true then yw l else if zF x.toNat=true then Xs l else if x.toNat=34 then ZU l else Yn l
theorem uZ {x:UInt8} {r:List UInt8} (h:zF x.toNat=true):digL (x::r)≠[]:=by
 unfold digL;simp [h]
theorem VC (l:List UInt8) (w:World) (hl:l.length≤140737488351232) (ht:Zi w) :
  Calls Tryz.prog 53 #[.string (za l)] w fun e w'=>e=.returned (zE (yA l))∧Below w.heap.size w w':=by
 have J:Below w.heap.size w (w.alloc ZF):=(Below.refl w.heap.size w).alloc (Nat.le_refl _) _;have G:Hid (Below w.heap.size w (w.alloc ZF)):=J;have H:Hid (Zi (w.alloc ZF)):=ht.alloc _;clear ht J;cases l with
 | nil =>
  go_enter Tryz.func53,Tryz.ntmps53
  go_wp2
  refine bodyPost_ret (v:=zE ⟨0,[],0,0,0⟩) (by simp [results,Tryz.results53,go_sem,zE]) rfl ⟨rfl,?_⟩
  exact G.out
 | cons x r =>
  have A:=fun wx=>xT wx (x::r) 0 (by simp)
  rw [show ((0:Nat):Int)=0 from rfl,show (x::r)[0]=x from rfl] at A
  obtain ⟨n,F⟩:∃n,n=x.toNat:=⟨_,rfl⟩;rw [←F] at A;have u:n<256:=by rw [F];exact UInt8.toNat_lt x
  have z:Hid (yA (x::r)=if Z5 n=true then yw (x::r) else if zF n=true then Xs (x::r) else if n=34 then ZU (x::r) else Yn (x::r)):=show _=_ by rw [F];rfl
  have T:Hid (zF n=true→digL (x::r)≠[]):=fun h=>uZ (by rw [←F];exact h)
  have O:¬ (x::r)=[]:=by simp
  clear F
  go_enter Tryz.func53,Tryz.ntmps53
  have U:(x::r).length≤140737488351232:=hl;have y:Hid (∀(R:TR) (w1:World),Below (w.alloc ZF).heap.size (w.alloc ZF) w1→Below (w.heap.size+1) (w.alloc ZF) w1):=fun R w1 h=>by rw [World.size_alloc] at h;exact h
  have K:=Zw n u (w.alloc ZF);go_wp2_with fail
  refine K.mono ?_;clear K;rintro e w1 ⟨rfl,rfl⟩;cases h1:Z5 n with
  | true =>
   obtain ⟨R,q⟩:∃R,R=yw (x::r):=⟨_,rfl⟩;have m:=xc (x::r) (w.alloc ZF) (by omega) H.out
   rw [←q] at m;have E:Hid (yA (x::r)=R):=show _=_ by rw [z.out,if_pos h1,q]
   unfold zE at m
   clear q;go_wp2_with fail
   refine m.mono ?_;clear m;rintro e w1 ⟨rfl,c⟩;have b:=y.out R w1 c;obtain ⟨o,D⟩:=ZV b;have B:Hid (Below w.heap.size w w1):=G.out.trans (b.mono (by omega))
   clear c b;go_wp2
   refine bodyPost_ret (v:=zE R) (by simp [results,Tryz.results53,go_sem,zE,o]) rfl ⟨by rw [E.out],?_⟩
   exact zN B.out _ _ _ _ _
  | false =>
   have I:=yc n u (w.alloc ZF);go_wp2_with fail
   refine I.mono ?_;clear I;rintro e w1 ⟨rfl,rfl⟩;cases h2:zF n with
   | true =>
    obtain ⟨R,q⟩:∃R,R=Xs (x::r):=⟨_,rfl⟩;have m:=Yw (x::r) (w.alloc ZF) (by omega) (T.out h2) H.out
    rw [←q] at m;have E:Hid (yA (x::r)=R):=show _=_ by rw [z.out,if_neg (by rw [h1];simp),if_pos h2,q]
    unfold zE at m
    clear q;go_wp2_with fail
    refine m.mono ?_;clear m;rintro e w1 ⟨rfl,c⟩;have b:=y.out R w1 c;obtain ⟨o,D⟩:=ZV b;have B:Hid (Below w.heap.size w w1):=G.out.trans (b.mono (by omega))
    clear c b;go_wp2
    refine bodyPost_ret (v:=zE R) (by simp [results,Tryz.results53,go_sem,zE,o]) rfl ⟨by rw [E.out],?_⟩
    exact zN B.out _ _ _ _ _
   | false =>
    by_cases h34:n=34
    ·obtain ⟨R,q⟩:∃R,R=ZU (x::r):=⟨_,rfl⟩
     have m:=xg (x::r) (w.alloc ZF) (by omega) (by simp) H.out
     rw [←q] at m;have E:Hid (yA (x::r)=R):=show _=_ by rw [z.out,if_neg (by rw [h1];simp),if_neg (by rw [h2];simp),if_pos h34,q]
     subst h34
     unfold zE at m
     clear q;go_wp2_with fail
     refine m.mono ?_;clear m;rintro e w1 ⟨rfl,c⟩;have b:=y.out R w1 c;obtain ⟨o,D⟩:=ZV b;have B:Hid (Below w.heap.size w w1):=G.out.trans (b.mono (by omega))
     clear c b;go_wp2
     refine bodyPost_ret (v:=zE R) (by simp [results,Tryz.results53,go_sem,zE,o]) rfl ⟨by rw [E.out],?_⟩
     exact zN B.out _ _ _ _ _
    ·obtain ⟨R,q⟩:∃R,R=Yn (x::r):=⟨_,rfl⟩
     have M:((n:Int)==34)=false:=by rw [beq_eq_false_iff_ne];omega
     have m:=xd (x::r) (w.alloc ZF) H.out;rw [←q] at m;have E:Hid (yA (x::r)=R):=show _=_ by rw [z.out,if_neg (by rw [h1];simp),if_neg (by rw [h2];simp),if_neg h34,q]
     unfold zE at m
     clear q;go_wp2_with fail
     refine m.mono ?_;clear m;rintro e w1 ⟨rfl,c⟩;have b:=y.out R w1 c;obtain ⟨o,D⟩:=ZV b;have B:Hid (Below w.heap.size w w1):=G.out.trans (b.mono (by omega))
     clear c b;go_wp2
     refine bodyPost_ret (v:=zE R) (by simp [results,Tryz.results53,go_sem,zE,o]) rfl ⟨by rw [E.out],?_⟩
     exact zN B.out _ _ _ _ _
end Go.Proofs.YtbjndgachcdbcaaGreatDoor

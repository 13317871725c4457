import Derived.Test.YtmbofhpmockmbaaGreatDoorMC5
import Derived.Test.YtmbofhpmockmbaaGreatDoorWAll
import Derived.Deep.MidRow
import Derived.LoopN
namespace Go.Proofs.YtmbofhpmockmbaaGreatDoor
open Go.RowKit
set_option maxHeartbeats 16000000
set_option maxRecDepth 100000
structure TR where
 k:Nat
 s:List UInt8
 n:Nat
 sz:Nat
 e:Nat
def Zx (r:TR):Value:=.tuple #[.agg #[.int .i64 r.k,.string (za r.s),.int .i64 r.n,.int .i64 0,.int .i64 0],.int .i64 r.sz,.int .i64 r.e]
def Ze (l:List UInt8):List UInt8:=l.takeWhile fun c=>ZG c.toNat
def Zk (l:List UInt8):TR:=if Zv (Ze l)=true then ⟨5,Ze l,0,(Ze l).length,0⟩ else if 20<(Ze l).length then ⟨0,[],0,0,5⟩ else ⟨1,Ze l,0,(Ze l).length,0⟩
theorem Yh (p:UInt8→Bool) (l:List UInt8):l.take (l.takeWhile p).length=l.takeWhile p:=by
 induction l with
 | nil=>rfl
 | cons x l ih =>
  by_cases h:p x=true
  ·simp [h,ih]
  ·simp [h]
theorem Xy (l:List UInt8):(Ze l).length≤l.length:=(List.takeWhile_sublist _).length_le
theorem Z1.alloc {w:World} (h:Z1 w) (o:Obj):Z1 (w.alloc o) :=
 ⟨fun j hj=>Lib.cell?_alloc_some o (h.words j hj),fun j hj=>Lib.cell?_alloc_some o (h.signs j hj),fun j hj=>Lib.cell?_alloc_some o (h.escs j hj),by obtain ⟨a,b,c⟩:=h.range;exact ⟨a,b,Lib.cell?_alloc_some o c⟩⟩
theorem Z1.below {w w':World} {B:Nat} (h:Z1 w) (hb:Below B w w') (hB:w.heap.size≤B):Z1 w':=by
 have e:∀{p:Addr} {v:Value},w.cell? p=some v→w'.cell? p=some v:=fun {p v} hp=>by
  rw [hb.cell (Nat.lt_of_lt_of_le (World.block_lt_of_cell? w _ hp) hB)];exact hp
 exact ⟨fun j hj=>e (h.words j hj),fun j hj=>e (h.signs j hj),fun j hj=>e (h.escs j hj),by obtain ⟨a,b,c⟩:=h.range;exact ⟨a,b,e c⟩⟩
theorem vd (l:List UInt8) (w:World) (hl:l.length≤9223372036854775000) (ht:Z1 w) :
  Calls Tryz.prog 160 #[.string (za l)] w fun e w'=>e=.returned (Zx (Zk l))∧Below w.heap.size w w':=by
 have J:Hid (Z1 w):=ht;have z:=Xy l;obtain ⟨m,o⟩:∃m,m=(Ze l).length:=⟨_,rfl⟩;rw [←o] at z;have D:=fun wx=>uP wx l m z
 rw [show l.take m=Ze l by rw [o];exact Yh _ l] at D
 have y:Hid (m=(Ze l).length):=o;clear ht
 have K:Hid (∀wx,Calls Tryz.prog 152 #[.string (za l),.func (.func 173) #[] #[]] wx fun e w'=>e=.returned (.int .i64 m)∧wx=w'):=fun wx=>by
  rw [o];exact q7 l wx hl
 have H:Hid (∀wx,Z1 wx→Calls Tryz.prog 174 #[.string (za (Ze l))] wx fun e w'=>e=.returned (.bool (Zv (Ze l)))∧wx=w'):=fun wx h=>q9 _ wx h
 clear o;have L:=(Below.refl w.heap.size w).alloc (Nat.le_refl _);obtain ⟨x,E⟩:∃x,x=Ze l:=⟨_,rfl⟩;rw [←E] at D H y;have G:Hid (x=Ze l):=E;clear E
 go_enter Tryz.func160,Tryz.ntmps160
 go_wp2_with fail
 refine (K.out _).mono ?_;rintro e I ⟨rfl,rfl⟩;go_wp2_with fail
 refine (H.out _ (J.out.alloc _)).mono ?_;rintro e I ⟨rfl,rfl⟩;cases hq:Zv x with
 | true =>
  have A:Hid (Zk l=⟨5,x,0,m,0⟩):=by unfold Zk;rw [←G.out,if_pos hq,←y.out];rfl
  go_wp2
  refine bodyPost_ret (v:=Zx ⟨5,x,0,m,0⟩) (by simp [results,Tryz.results160,go_sem,Zx]) rfl ⟨by rw [A.out],?_⟩
  exact (Below.refl w.heap.size w).alloc (Nat.le_refl _) _
 | false =>
  by_cases h20:20<m
  ·have A:Hid (Zk l=⟨0,[],0,0,5⟩):=by unfold Zk;rw [←G.out,if_neg (by rw [hq];simp),if_pos (by rw [←y.out];exact h20)];rfl
   go_wp2
   refine bodyPost_ret (v:=Zx ⟨0,[],0,0,5⟩) (by simp [results,Tryz.results160,go_sem,Zx]) rfl ⟨by rw [A.out],?_⟩
   exact (Below.refl w.heap.size w).alloc (Nat.le_refl _) _
  ·have A:Hid (Zk l=⟨1,x,0,m,0⟩):=by unfold Zk;rw [←G.out,if_neg (by rw [hq];simp),if_neg (by rw [←y.out];exact h20),←y.out];rfl
   go_wp2
   refine bodyPost_ret (v:=Zx ⟨1,x,0,m,0⟩) (by simp [results,Tryz.results160,go_sem,Zx]) rfl ⟨by rw [A.out],?_⟩
   exact (Below.refl w.heap.size w).alloc (Nat.le_refl _) _
def valA (acc:Nat):List UInt8→Nat
 | []=>acc
 | c::r=>valA (acc*10+(c.toNat-48)) r
theorem Vj:∀(r:List UInt8) (acc:Nat),acc≤valA acc r
 | [],_=>Nat.le_refl _
 | c::r,acc=>Nat.le_trans (by omega) (Vj r (acc*10+(c.toNat-48)))
theorem Vk (ds:List UInt8):∀(e:Nat),(∀c∈ds,zC c.toNat=true)→e<18446744073709551616 →
  Lib.parseUint10 e ds=if valA e ds<18446744073709551616 then .ok (valA e ds) else .range:=by
 induction ds with
 | nil =>
  intro e _ y;rw [show valA e []=e from rfl,if_pos y]
  rfl
 | cons c r ih =>
  intro e h y;have o:=h c (List.mem_cons_self ..)
  unfold zC at o
  rw [Bool.and_eq_true,decide_eq_true_eq,decide_eq_true_eq] at o;have z:=Vj r (e*10+(c.toNat-48));rw [show valA e (c::r)=valA (e*10+(c.toNat-48)) r from rfl]
  unfold Lib.parseUint10
  rw [if_pos o]
  by_cases h1:1844674407370955162≤e
  ·rw [if_pos h1,if_neg (by omega)]
  ·rw [if_neg h1]
   by_cases h2:18446744073709551616≤e*10+(c.toNat-48)
   ·rw [if_pos h2,if_neg (by omega)]
   ·rw [if_neg h2]
    exact ih _ (fun d hd=>h d (List.mem_cons_of_mem _ hd)) (by omega)
theorem VV {ds:List UInt8} (h:∀c∈ds,zC c.toNat=true) (hne:ds≠[]) :
  Lib.atoiAll ds=if valA 0 ds<9223372036854775808 then .ok (valA 0 ds:Int) else .range:=by
 cases ds with
 | nil=>exact absurd rfl hne
 | cons c r =>
  have y:=h c (List.mem_cons_self ..)
  unfold zC at y
  rw [Bool.and_eq_true,decide_eq_true_eq,decide_eq_true_eq] at y;have A:¬ (c.toNat=43∨c.toNat=45):=by omega
  have e:¬ c.toNat=45:=by omega
  have o:Lib.parseMag (c::r)=if valA 0 (c::r)<18446744073709551616 then .ok (valA 0 (c::r)) else .range:=by
   unfold Lib.parseMag;rw [if_neg (by simp)];exact Vk _ 0 h (by omega)
  generalize valA 0 (c::r)=v at o ⊢;have z:(if c.toNat=43∨c.toNat=45 then r else c::r)=c::r:=if_neg A
  unfold Lib.atoiAll
  simp only [z];rw [o]
  by_cases h3:v<18446744073709551616
  ·rw [if_pos h3]
   by_cases h4:v<9223372036854775808
   ·simp only
    rw [if_neg (by omega),if_neg (by omega),if_neg e,if_pos h4]
   ·simp only
    rw [if_pos ⟨e,by omega⟩,if_neg h4]
  ·rw [if_neg h3,if_neg (by omega)]
theorem YX {p:UInt8→Bool}:∀(l:List UInt8) (c:UInt8),c∈l.takeWhile p→p c=true
 | [],c,h=>by simp at h
 | x::l,c,h=>by
  by_cases hx:p x=true
  ·rw [List.takeWhile_cons_of_pos hx] at h
   rcases List.mem_cons.1 h with rfl | h
   ·exact hx
   ·exact YX l c h
  ·rw [List.takeWhile_cons_of_neg hx] at h
   simp at h
def digL (l:List UInt8):List UInt8:=l.takeWhile fun c=>zC c.toNat
def yj (l:List UInt8):TR:=if valA 0 (digL l)<9223372036854775808 then ⟨2,[],valA 0 (digL l),(digL l).length,0⟩ else ⟨0,[],0,0,5⟩
theorem UD (l:List UInt8):(digL l).length≤l.length:=(List.takeWhile_sublist _).length_le
theorem Xz (l:List UInt8):∀c∈digL l,zC c.toNat=true:=fun c hc=>YX (p:=fun c=>zC c.toNat) l c hc
theorem Xh (l:List UInt8) (w:World) (hl:l.length≤140737488351232) (hne:digL l≠[]) (ht:Z1 w) :
  Calls Tryz.prog 162 #[.string (za l)] w fun e w'=>e=.returned (Zx (yj l))∧Below w.heap.size w w':=by
 have Y:Hid (Z1 w):=ht;have H:=UD l;obtain ⟨m,G⟩:∃m,m=(digL l).length:=⟨_,rfl⟩;rw [←G] at H;have K:=fun wx=>uP wx l m H
 rw [show l.take m=digL l by rw [G];exact Yh _ l] at K
 have L:Hid (m=(digL l).length):=G;have T:m≤140737488351232:=by omega
 clear ht
 have Z:Hid (∀wx,Calls Tryz.prog 152 #[.string (za l),.func (.func 161) #[] #[]] wx fun e w'=>e=.returned (.int .i64 m)∧wx=w'):=fun wx=>by
  rw [G];exact U4 l wx (by omega)
 have y:=VV (Xz l) hne;obtain ⟨x,M⟩:∃x,x=digL l:=⟨_,rfl⟩;rw [←M] at K L y;obtain ⟨v,O⟩:∃v,v=valA 0 x:=⟨_,rfl⟩;rw [←O] at y;have X:Hid (x=digL l):=M;have V:Hid (v=valA 0 x):=O;have E:Hid (Lib.atoiAll x=if v<9223372036854775808 then .ok (v:Int) else .range):=y
 clear M O y G
 go_enter Tryz.func162,Tryz.ntmps162
 go_wp2_with fail
 refine (Z.out _).mono ?_;rintro e w1 ⟨rfl,rfl⟩
 by_cases h63:v<9223372036854775808
 ·have D:=fun wx=>Tryz.strconv_Atoi_ok (za x) (by rw [Zz,←L.out];omega) v (by show Lib.atoiAll x=_;rw [E.out,if_pos h63]) wx
  have R:Hid (yj l=⟨2,[],v,m,0⟩):=by unfold yj;rw [←X.out,←V.out,if_pos h63,←L.out];rfl
  go_wp2_with fail
  refine (D _).mono ?_;clear D;rintro e w1 ⟨rfl,J⟩
  have h:Below (w.heap.size+1) (w.alloc (Obj.cells #[Value.int IntKind.i64 0,Value.string ⟨#[]⟩,Value.int IntKind.i64 0,Value.int IntKind.i64 0,Value.int IntKind.i64 0] 142)) w1:=by
   rcases J with rfl | ⟨t,rfl⟩
   ·exact Below.refl _ _
   ·have A:=Lib.bytesWorld_below (w.alloc (Obj.cells #[Value.int IntKind.i64 0,Value.string ⟨#[]⟩,Value.int IntKind.i64 0,Value.int IntKind.i64 0,Value.int IntKind.i64 0] 142)) 5 t
    rw [World.size_alloc] at A;exact A
  clear J
  obtain ⟨z,N⟩:(∀o,w1.cell? ⟨w.heap.size,o,none⟩=(w.alloc (Obj.cells #[Value.int IntKind.i64 0,Value.string ⟨#[]⟩,Value.int IntKind.i64 0,Value.int IntKind.i64 0,Value.int IntKind.i64 0] 142)).cell? ⟨w.heap.size,o,none⟩)∧(∀o,w1.frozen? ⟨w.heap.size,o,none⟩=(w.alloc (Obj.cells #[Value.int IntKind.i64 0,Value.string ⟨#[]⟩,Value.int IntKind.i64 0,Value.int IntKind.i64 0,Value.int IntKind.i64 0] 142)).frozen? ⟨w.heap.size,o,none⟩) :=
   ⟨fun o=>h.cell (p:=⟨w.heap.size,o,none⟩) (by simp),fun o=>h.frozen (p:=⟨w.heap.size,o,none⟩) (by simp)⟩
  have Q:Hid (Below w.heap.size w w1):=((Below.refl w.heap.size w).alloc (Nat.le_refl _) _).trans (h.mono (by omega))
  clear h;go_wp2
  refine bodyPost_ret (v:=Zx ⟨2,[],v,m,0⟩) (by simp [results,Tryz.results162,go_sem,Zx,z]) rfl ⟨by rw [R.out],?_⟩
  exact ((((Q.out.setCell (p:=⟨w.heap.size,0,none⟩) (Nat.le_refl _) _).setCell (p:=⟨w.heap.size,1,none⟩) (Nat.le_refl _) _).setCell (p:=⟨w.heap.size,2,none⟩) (Nat.le_refl _) _).setCell (p:=⟨w.heap.size,3,none⟩) (Nat.le_refl _) _).setCell (p:=⟨w.heap.size,4,none⟩) (Nat.le_refl _) _
 ·obtain ⟨W,U,I⟩:=Y.out.range
  have D:=Tryz.strconv_Atoi_range (za x) (by rw [Zz,←L.out];omega) (by show Lib.atoiAll x=_;rw [E.out,if_neg h63]) (.iface W U) (w.alloc (Obj.cells #[Value.int IntKind.i64 0,Value.string ⟨#[]⟩,Value.int IntKind.i64 0,Value.int IntKind.i64 0,Value.int IntKind.i64 0] 142)) (Lib.cell?_alloc_some _ I) (.inr ⟨W,U,rfl⟩)
  have R:Hid (yj l=⟨0,[],0,0,5⟩):=by unfold yj;rw [←X.out,←V.out,if_neg h63];rfl
  go_wp2_with fail
  refine D.mono ?_;clear D;rintro e w1 ⟨NN,rfl,-,-,h⟩;rw [World.size_alloc] at h
  obtain ⟨z,N⟩:(∀o,w1.cell? ⟨w.heap.size,o,none⟩=(w.alloc (Obj.cells #[Value.int IntKind.i64 0,Value.string ⟨#[]⟩,Value.int IntKind.i64 0,Value.int IntKind.i64 0,Value.int IntKind.i64 0] 142)).cell? ⟨w.heap.size,o,none⟩)∧(∀o,w1.frozen? ⟨w.heap.size,o,none⟩=(w.alloc (Obj.cells #[Value.int IntKind.i64 0,Value.string ⟨#[]⟩,Value.int IntKind.i64 0,Value.int IntKind.i64 0,Value.int IntKind.i64 0] 142)).frozen? ⟨w.heap.size,o,none⟩) :=
   ⟨fun o=>h.cell (p:=⟨w.heap.size,o,none⟩) (by simp),fun o=>h.frozen (p:=⟨w.heap.size,o,none⟩) (by simp)⟩
  have Q:Hid (Below w.heap.size w w1):=((Below.refl w.heap.size w).alloc (Nat.le_refl _) _).trans (h.mono (by omega))
  clear h I;go_wp2
  refine bodyPost_ret (v:=Zx ⟨0,[],0,0,5⟩) (by simp [results,Tryz.results162,go_sem,Zx,z]) rfl ⟨by rw [R.out],?_⟩
  exact ((((Q.out.setCell (p:=⟨w.heap.size,0,none⟩) (Nat.le_refl _) _).setCell (p:=⟨w.heap.size,1,none⟩) (Nat.le_refl _) _).setCell (p:=⟨w.heap.size,2,none⟩) (Nat.le_refl _) _).setCell (p:=⟨w.heap.size,3,none⟩) (Nat.le_refl _) _).setCell (p:=⟨w.heap.size,4,none⟩) (Nat.le_refl _) _
def longer (l best x:List UInt8):List UInt8:=if best.length<x.length∧Lib.hasPrefix l x=true then x else best
def bestS (l:List UInt8) (n:Nat):List UInt8:=(signsL.take n).foldl (longer l) []
def ZM (l:List UInt8):TR:=if bestS l 25=[] then ⟨0,[],0,0,6⟩ else ⟨4,bestS l 25,0,(bestS l 25).length,0⟩
theorem uR (l:List UInt8) (n:Nat) (h:n<signsL.length):bestS l (n+1)=longer l (bestS l n) signsL[n]:=by
 unfold bestS;rw [List.take_succ_eq_append_getElem h,List.foldl_append];rfl
theorem vN (l:List UInt8) (n:Nat):(bestS l n).length≤2:=by
 have o:∀(e:List (List UInt8)) (b:List UInt8),(∀x∈e,x.length≤2)→b.length≤2→(e.foldl (longer l) b).length≤2:=by
  intro e
  induction e with
  | nil=>intro b _ z;exact z
  | cons x e ih =>
   intro b h z;refine ih _ (fun y hy=>h y (List.mem_cons_of_mem _ hy)) ?_
   unfold longer
   split
   ·exact h x (List.mem_cons_self ..)
   ·exact z
 exact o _ _ (fun x h=>by
  have:∀x∈signsL,x.length≤2:=by decide
  exact this x (List.mem_of_mem_take h)) (by simp)
def xI:List Value:=signsL.map fun x=>.string (za x)
def signsV:Value:=.agg xI.toArray
theorem VW {w:World} (ht:Z1 w):w.rangeAt 8 0 xI:=fun j v hv=>by
 unfold xI at hv
 rw [List.getElem?_map] at hv;rcases Nat.lt_or_ge j signsL.length with h | h
 ·rw [List.getElem?_eq_getElem h] at hv
  simp only [Option.map_some,Option.some.injEq] at hv;rw [Nat.zero_add,ht.signs j h,hv]
 ·rw [List.getElem?_eq_none h] at hv;cases hv
theorem uS:(Tryz.prog.info? 225).map (·.size)=some xI.length:=by kernel_rfl
theorem vh (l:List UInt8) (w:World) (ht:Z1 w) :
  Calls Tryz.prog 164 #[.string (za l)] w fun e w'=>e=.returned (Zx (ZM l))∧Below w.heap.size w w':=by
 have T:Hid (Z1 w):=ht;clear ht
 go_enter Tryz.func164,Tryz.ntmps164
 go_wp2_with (refine wpList_load_mid rfl 225 _ rfl 8 0 rfl xI _ (VW (T.out.alloc _)) Tryz.underlying225 rfl uS ?_)
 have Q:Hid (∀(wx:World) (i:Nat) (h:i<25),(Instr.index 225 signsV (.int .i64 (i:Int))).run Tryz.prog wx=.ok (.string (za (signsL[i]'h))) wx):=fun wx i h=>U7 wx i h
 rw [show Value.agg xI.toArray=signsV from rfl]
 generalize signsV=A at *
 go_loop [5,9] (fun vb v=>∃i:Nat,i≤25∧v=.int .i64 i∧vb=.string (za (bestS l i))) (fun _ v=>25-(intOf v).toNat)
 case atStart=>exact ⟨0,Nat.zero_le _,rfl,rfl⟩
 case round =>
  obtain ⟨i,U,rfl,rfl⟩:=hrel;have H:=vN l i;obtain ⟨b,M⟩:∃b,b=bestS l i:=⟨_,rfl⟩;rw [←M] at H ⊢;have I:Hid (b=bestS l i):=M;clear M
  by_cases hlt:i<25
  ·have D:=fun wx=>Q.out wx i hlt
   obtain ⟨x,E⟩:∃x,x=signsL[i]'hlt:=⟨_,rfl⟩;rw [←E] at D
   have O:x.length≤2:=by
    have:∀x∈signsL,x.length≤2:=by decide
    rw [E];exact this _ (List.getElem_mem _)
   have L:Hid (bestS l (i+1)=longer l b x):=show bestS l (i+1)=longer l b x by rw [uR l i hlt,I.out,E]
   have R:(za x).size=x.length:=rfl;have J:(za b).size=b.length:=rfl;clear E
   by_cases hlen:b.length<x.length
   ·have G:=fun wx=>Tryz.strings_HasPrefix (za l) (za x) wx
    cases hp:Lib.hasPrefix l x with
    | true =>
     have z:Lib.hasPrefix (za l).data.toList (za x).data.toList=true:=hp;rw [z] at G;have o:Hid (bestS l (i+1)=x):=show bestS l (i+1)=x by rw [L.out];unfold longer;rw [if_pos ⟨hlen,hp⟩]
     clear z;go_wp2_with (go_at_call 154;refine (G _).mono ?_;rintro e N ⟨rfl,rfl⟩)
     refine ⟨⟨i+1,by omega,by go_num,by rw [o.out]⟩,by simp [intOf];omega⟩
    | false =>
     have z:Lib.hasPrefix (za l).data.toList (za x).data.toList=false:=hp;rw [z] at G;have o:Hid (bestS l (i+1)=b):=show bestS l (i+1)=b by rw [L.out];unfold longer;rw [if_neg (fun h=>by rw [hp] at h;exact absurd h.2 (by decide))]
     clear z;go_wp2_with (go_at_call 154;refine (G _).mono ?_;rintro e N ⟨rfl,rfl⟩)
     refine ⟨⟨i+1,by omega,by go_num,by rw [o.out]⟩,by simp [intOf];omega⟩
   ·have o:Hid (bestS l (i+1)=b):=show bestS l (i+1)=b by rw [L.out];unfold longer;rw [if_neg (fun h=>hlen h.1)]
    go_wp2
    refine ⟨⟨i+1,by omega,by go_num,by rw [o.out]⟩,by simp [intOf];omega⟩
  ·obtain rfl:i=25:=by omega
   have J:(za b).size=b.length:=rfl;cases b with
   | nil =>
    have K:Hid (ZM l=⟨0,[],0,0,6⟩):=by unfold ZM;rw [←I.out,if_pos rfl];rfl
    go_wp2
    refine bodyPost_ret (v:=Zx ⟨0,[],0,0,6⟩) (by simp [results,Tryz.results164,go_sem,Zx]) rfl ⟨by rw [K.out],?_⟩
    exact (Below.refl w.heap.size w).alloc (Nat.le_refl _) _
   | cons y ys =>
    have K:Hid (ZM l=⟨4,y::ys,0,(y::ys).length,0⟩):=by unfold ZM;rw [←I.out,if_neg (by simp)];rfl
    go_wp2
    refine bodyPost_ret (v:=Zx ⟨4,y::ys,0,(y::ys).length,0⟩) (by simp [results,Tryz.results164,go_sem,Zx]) rfl ⟨by rw [K.out],?_⟩
    exact (Below.refl w.heap.size w).alloc (Nat.le_refl _) _
def Ye:List UInt8→Nat × Nat
 | []=>(0,0)
 | x::r=>if x.toNat<32∨126<x.toNat then (0,0) else if x.toNat≠92 then (x.toNat,1) else
  match r with
  | []=>(0,0)
  | y::_=>if y.toNat=92 then (92,2) else if y.toNat=34 then (34,2) else if y.toNat=110 then (10,2) else (0,0)
theorem ZU (w:World) (l:List UInt8) (i:Nat) (h:i<l.length):(Instr.index 9 (.string (za l)) (.int .i64 (i:Int))).run Tryz.prog w=.ok (.int .u8 ((l[i]).toNat:Int)) w:=by
 rw [run_index_string (P:=Tryz.prog) (w:=w) 9 (za l) .i64 _ Tryz.underlying9,dif_pos ⟨by omega,by rw [Zz];omega⟩]
 simp only [Int.toNat_natCast]
 rfl
theorem vO {a:Nat × Nat} {c k:Nat} (h:a=(c,k)):(Ending.returned (.tuple #[.int .u8 (c:Int),.int .i64 (k:Int)]):Ending)=.returned (.tuple #[.int .u8 (a.1:Int),.int .i64 (a.2:Int)]):=by rw [h]
theorem xw {x:UInt8} {r:List UInt8} (h:x.toNat<32∨126<x.toNat):Ye (x::r)=(0,0):=by
 show (if _ then _ else _)=_;rw [if_pos h]
theorem xx {x:UInt8} {r:List UInt8} (h:¬ (x.toNat<32∨126<x.toNat)) (h2:x.toNat≠92):Ye (x::r)=(x.toNat,1):=by
 show (if _ then _ else _)=_;rw [if_neg h,if_pos h2]
theorem Xl {x:UInt8} (h:¬ (x.toNat<32∨126<x.toNat)) (h2:x.toNat=92):Ye [x]=(0,0):=by
 show (if _ then _ else _)=_;rw [if_neg h,if_neg (by omega)]
def U8 (m:Nat):Nat × Nat:=if m=92 then (92,2) else if m=34 then (34,2) else if m=110 then (10,2) else (0,0)
theorem Xm {x y:UInt8} {t:List UInt8} (h:¬ (x.toNat<32∨126<x.toNat)) (h2:x.toNat=92):Ye (x::y::t)=U8 y.toNat:=by
 show (if _ then _ else _)=_;rw [if_neg h,if_neg (by omega)];rfl
def Vl:List Nat:=[92,34,110]
def zap:List Nat:=[92,34,10]
theorem zaq {m i:Nat} (hi:i<3) (h:∀j (hj:j<3),j<i→(Vl[j]'hj)≠m) (he:(Vl[i]'hi)=m):U8 m=((zap[i]'hi),2):=by
 have e:i=0∨i=1∨i=2:=by omega
 rcases e with rfl | rfl | rfl
 ·rw [←he];rfl
 ·rw [←he];rfl
 ·rw [←he];rfl
theorem QW {m:Nat} (h:∀j (hj:j<3),(Vl[j]'hj)≠m):U8 m=(0,0):=by
 have e:92≠m:=h 0 (by decide)
 have o:34≠m:=h 1 (by decide)
 have y:110≠m:=h 2 (by decide)
 unfold U8
 rw [if_neg (by omega),if_neg (by omega),if_neg (by omega)]
theorem Qa (w:World) (i:Nat) (h:i<3):(Instr.index 229 (.agg #[.int .u8 92,.int .u8 92,.int .u8 34,.int .u8 34,.int .u8 10,.int .u8 110]) (.int .i64 (i:Int))).run Tryz.prog w=.ok (.agg #[.int .u8 ((zap[i]'h:Nat):Int),.int .u8 ((Vl[i]'h:Nat):Int)]) w:=by
 have e:i=0∨i=1∨i=2:=by omega
 rcases e with rfl | rfl | rfl
 all_goals rfl
theorem Vm (x:UInt8) (r:List UInt8) (w:World) (hl:r.length≤9223372036854775000) (ht:Z1 w) :
  Calls Tryz.prog 175 #[.string (za (x::r))] w fun e w'=>e=.returned (.tuple #[.int .u8 (Ye (x::r)).1,.int .i64 (Ye (x::r)).2])∧Below w.heap.size w w':=by
 have O:=fun wx=>ZU wx (x::r) 0 (by simp)
 rw [show ((0:Nat):Int)=0 from rfl,show (x::r)[0]=x from rfl] at O
 have z:(za (x::r)).size=r.length+1:=rfl;obtain ⟨n,o⟩:∃n,n=x.toNat:=⟨_,rfl⟩;have N:n<256:=by rw [o];exact UInt8.toNat_lt x
 rw [←o] at O;obtain ⟨S,I⟩:∃S,S=za (x::r):=⟨_,rfl⟩;rw [←I] at O z ⊢;have W:=ht.escs 0 (by decide)
 have U:=ht.escs 1 (by decide)
 have Z:=ht.escs 2 (by decide)
 have e3:=ht.escs 3 (by decide)
 have V:=ht.escs 4 (by decide)
 have e5:=ht.escs 5 (by decide)
 simp only [List.getElem_cons_zero,List.getElem_cons_succ] at W U Z e3 V e5;clear ht
 by_cases hbad:n<32∨126<n
 ·have A:Hid (Ye (x::r)=(0,0)):=xw (by rw [←o];exact hbad)
  clear I o;rcases hbad with H | H
  ·go_enter Tryz.func175,Tryz.ntmps175
   go_wp2
   go_ret2
   exact ⟨vO A.out,Below.refl _ _⟩
  ·go_enter Tryz.func175,Tryz.ntmps175
   go_wp2
   go_ret2
   exact ⟨vO A.out,Below.refl _ _⟩
 ·by_cases h92:n=92
  ·cases r with
   | nil =>
    have A:Hid (Ye [x]=(0,0)):=Xl (by rw [←o];exact hbad) (by rw [←o];exact h92)
    have Y:S.size=1:=z;clear I o hbad z;subst h92
    go_enter Tryz.func175,Tryz.ntmps175
    go_wp2
    go_ret2
    exact ⟨vO A.out,Below.refl _ _⟩
   | cons y t =>
    have h1:=fun wx=>ZU wx (x::y::t) 1 (by simp)
    rw [show ((1:Nat):Int)=1 from rfl,show (x::y::t)[1]=y from rfl] at h1
    obtain ⟨m,L⟩:∃m,m=y.toNat:=⟨_,rfl⟩;have T:m<256:=by rw [L];exact UInt8.toNat_lt y
    rw [←L,←I] at h1;have K:Hid (Ye (x::y::t)=U8 m):=show _=_ by rw [L];exact Xm (by rw [←o];exact hbad) (by rw [←o];exact h92)
    have aa:S.size=t.length+2:=z;have X:((t.length:Int)+2==1)=false:=by rw [beq_eq_false_iff_ne];omega
    have af:t.length+1≤9223372036854775000:=by simpa using hl
    clear I o hbad z L hl;subst h92
    go_enter Tryz.func175,Tryz.ntmps175
    go_wp2
    clear W U Z e3 V e5
    go_loopw [26] (fun v wr=>∃i:Nat,i≤3∧v=.int .i64 i∧(∀j (hj:j<3),j<i→(Vl[j]'hj)≠m)∧Below w.heap.size w wr) (fun v _=>3-(intOf v).toNat)
    case atStart=>exact ⟨0,Nat.zero_le _,rfl,fun j _ h=>by omega,Below.refl _ _⟩
    case round =>
     obtain ⟨i,hi,rfl,D,G⟩:=hrel;have Q:Hid (∀j (hj:j<3),j<i→(Vl[j]'hj)≠m):=D;have R:Hid (Below w.heap.size w wr):=G;have E:=G.size;clear D G
     by_cases hlt:i<3
     ·have J:=fun wx=>Qa wx i hlt
      obtain ⟨a,M⟩:∃a,a=zap[i]'hlt:=⟨_,rfl⟩;obtain ⟨b,H⟩:∃b,b=Vl[i]'hlt:=⟨_,rfl⟩;rw [←M,←H] at J
      by_cases he:b=m
      ·have A:Hid (Ye (x::y::t)=(a,2)):=show _=_ by rw [K.out,M];exact zaq hlt Q.out (by rw [←H];exact he)
       subst he;clear M H;go_wp2
       go_quiet (fail)
       go_wp2
       go_ret2
       refine ⟨vO A.out,?_⟩;exact (R.out.alloc E _).trans ⟨rfl,rfl,rfl,Nat.le_refl _,fun _ _=>rfl⟩
      ·have ae:((b:Int)==(m:Int))=false:=by rw [beq_eq_false_iff_ne];omega
       have HE:Hid ((Vl[i]'hlt)≠m):=show (Vl[i]'hlt)≠m by rw [←H];exact he
       clear M H he;go_wp2
       go_quiet (fail)
       go_wp2
       refine ⟨⟨i+1,by omega,by go_num,fun j hj hji=>?_,(R.out.alloc E _).trans ⟨rfl,rfl,rfl,Nat.le_refl _,fun _ _=>rfl⟩⟩,by simp [intOf];omega⟩
       by_cases h:j<i
       ·exact Q.out j hj h
       ·obtain rfl:j=i:=by omega
        exact HE.out
     ·obtain rfl:i=3:=by omega
      have A:Hid (Ye (x::y::t)=(0,0)):=show _=_ by rw [K.out];exact QW (fun j hj=>Q.out j hj hj)
      go_wp2
      go_ret2
      exact ⟨vO A.out,R.out⟩
  ·have A:Hid (Ye (x::r)=(n,1)):=show Ye (x::r)=(n,1) by rw [o];exact xx (by rw [←o];exact hbad) (by rw [←o];exact h92)
   have ab:32≤n:=by omega
   have ad:n≤126:=by omega
   clear I o hbad
   go_enter Tryz.func175,Tryz.ntmps175
   go_wp2
   go_ret2
   exact ⟨vO A.out,Below.refl _ _⟩
def zx:Nat→List UInt8→Nat→List UInt8→TR
 | 0,_,_,_=>⟨0,[],0,0,6⟩
 | _+1,_,_,[]=>⟨0,[],0,0,6⟩
 | f+1,meant,at0,x::r=>if x.toNat=34 then ⟨3,meant,0,at0+1,0⟩ else if (Ye (x::r)).2=0 then ⟨0,[],0,0,6⟩ else if meant.length=255 then ⟨0,[],0,0,5⟩
  else zx f (meant++[(Ye (x::r)).1.toUInt8]) (at0+(Ye (x::r)).2) ((x::r).drop (Ye (x::r)).2)
def zO (l:List UInt8):TR:=zx l.length [] 1 (l.drop 1)
theorem Qb (l:List UInt8):(Ye l).2≤l.length∧(Ye l).1<256:=by
 cases l with
 | nil=>exact ⟨Nat.le_refl _,by decide⟩
 | cons x r =>
  by_cases h:x.toNat<32∨126<x.toNat
  ·rw [xw h];simp
  ·by_cases h2:x.toNat=92
   ·cases r with
    | nil=>rw [Xl h h2];simp
    | cons y t =>
     rw [Xm h h2]
     unfold U8
     split
     ·simp
     ·split
      ·simp
      ·split <;> simp
   ·rw [xx h h2]
    have:=UInt8.toNat_lt x
    simp;omega
abbrev Zf:Obj:=Obj.cells #[Value.int IntKind.i64 0,Value.string ⟨#[]⟩,Value.int IntKind.i64 0,Value.int IntKind.i64 0,Value.int IntKind.i64 0] 142
theorem ZW {w w1:World} (hb:Below (w.heap.size+1) (w.alloc Zf) w1) :
  (∀o,w1.cell? ⟨w.heap.size,o,none⟩=(w.alloc Zf).cell? ⟨w.heap.size,o,none⟩)∧(∀o,w1.frozen? ⟨w.heap.size,o,none⟩=(w.alloc Zf).frozen? ⟨w.heap.size,o,none⟩) :=
 ⟨fun o=>hb.cell (p:=⟨w.heap.size,o,none⟩) (by simp),fun o=>hb.frozen (p:=⟨w.heap.size,o,none⟩) (by simp)⟩
theorem zG {w w1:World} (h:Below w.heap.size w w1) (a b c d e:Value) :
  Below w.heap.size w (((((w1.setCell ⟨w.heap.size,0,none⟩ a).setCell ⟨w.heap.size,1,none⟩ b).setCell ⟨w.heap.size,2,none⟩ c).setCell ⟨w.heap.size,3,none⟩ d).setCell ⟨w.heap.size,4,none⟩ e) :=
 ((((h.setCell (p:=⟨w.heap.size,0,none⟩) (Nat.le_refl _) _).setCell (p:=⟨w.heap.size,1,none⟩) (Nat.le_refl _) _).setCell (p:=⟨w.heap.size,2,none⟩) (Nat.le_refl _) _).setCell (p:=⟨w.heap.size,3,none⟩) (Nat.le_refl _) _).setCell (p:=⟨w.heap.size,4,none⟩) (Nat.le_refl _) _
theorem U9 {w w':World} {B C e n:Nat} {v:Value} {xs:List Value} (h:w.ownsRow B e 1 v n xs) (hb:Below C w w') (hC:w.heap.size≤C):w'.ownsRow B e 1 v n xs :=
 h.kept (row:=none) ⟨hb.os,hb.tape,hb.output,hb.size,fun k hk _=>hb.block k (by omega)⟩ (by cases h':v.ownBlock <;> simp)
theorem vj (l:List UInt8) (w:World) (hl:l.length≤140737488351232) (hl1:1≤l.length) (ht:Z1 w) :
  Calls Tryz.prog 163 #[.string (za l)] w fun e w'=>e=.returned (Zx (zO l))∧Below w.heap.size w w':=by
 have HT:Hid (Z1 w):=ht;have aA:(za l).size=l.length:=rfl;have hA:Below w.heap.size w (w.alloc Zf):=(Below.refl w.heap.size w).alloc (Nat.le_refl _) _;have HA:Hid (Below w.heap.size w (w.alloc Zf)):=hA;clear ht hA
 go_enter Tryz.func163,Tryz.ntmps163
 go_wp2
 go_loopw [5,6] (fun vm va wr=>∃(f at0:Nat) (meant:List UInt8),va=.int .i64 at0∧at0≤l.length∧l.length≤at0+f∧meant.length≤255∧zO l=zx f meant at0 (l.drop at0) ∧
   wr.ownsRow (w.heap.size+1) 5 1 vm meant.length (Lib.byteCells meant)∧Below (w.heap.size+1) (w.alloc Zf) wr) (fun _ a _=>l.length-(intOf a).toNat)
 case atStart=>exact ⟨l.length,1,[],rfl,hl1,by omega,by simp,rfl,World.ownsRow_nil _ _ _ _,Below.refl _ _⟩
 case round =>
  obtain ⟨f,at0,meant,rfl,ay,az,al,af,N,D⟩:=hrel;have ah:Hid (zO l=zx f meant at0 (l.drop at0)):=af;have ai:Hid (Below (w.heap.size+1) (w.alloc Zf) wr):=D;have HB:Hid (Below w.heap.size w wr):=HA.out.trans (D.mono (by omega))
  have Q:=D.size;rw [World.size_alloc] at Q;obtain ⟨z,Z⟩:=ZW D;have HO:Hid (wr.ownsRow (w.heap.size+1) 5 1 u5 meant.length (Lib.byteCells meant)):=N;clear af D N
  by_cases hlt:at0<l.length
  ·obtain ⟨x,r,A⟩:∃x r,l.drop at0=x::r:=⟨l[at0],l.drop (at0+1),List.drop_eq_getElem_cons hlt⟩
   have ag:l[at0]=x:=by
    have h:=List.drop_eq_getElem_cons hlt;rw [A] at h;exact (List.cons.inj h).1.symm
   have O:=fun wx=>ZU wx l at0 hlt
   rw [ag] at O;obtain ⟨n,hn⟩:∃n,n=x.toNat:=⟨_,rfl⟩;rw [←hn] at O;have am:n<256:=by rw [hn];exact UInt8.toNat_lt x
   obtain ⟨W,rfl⟩:∃W,f=W+1:=⟨f-1,by omega⟩
   have ae:Hid (zO l=if n=34 then ⟨3,meant,0,at0+1,0⟩ else if (Ye (x::r)).2=0 then ⟨0,[],0,0,6⟩ else if meant.length=255 then ⟨0,[],0,0,5⟩ else zx W (meant++[(Ye (x::r)).1.toUInt8]) (at0+(Ye (x::r)).2) ((x::r).drop (Ye (x::r)).2)):=show _=_ by
    rw [ah.out,A,hn];rfl
   have ao:=fun wx=>YJ wx l at0 (by omega)
   rw [A] at ao;have aa:(x::r).length=l.length-at0:=by rw [←A,List.length_drop]
   have ap:Hid (l.drop at0=x::r):=A;clear ag hn A
   by_cases h34:n=34
   ·have M:Hid (zO l=⟨3,meant,0,at0+1,0⟩):=show _=_ by rw [ae.out,if_pos h34]
    subst h34;obtain ⟨y,I,rfl,J,-,-,-⟩:=ya HO.out;have aB:=Xs wr y meant I J;clear J;go_wp2
    refine bodyPost_ret (v:=Zx ⟨3,meant,0,at0+1,0⟩) (by simp [results,Tryz.results163,go_sem,Zx,z]) rfl ⟨by rw [M.out],?_⟩
    exact zG HB.out _ _ _ _ _
   ·have au:((n:Int)==34)=false:=by rw [beq_eq_false_iff_ne];omega
    have H:=Qb (x::r);have cb:=Vm x r wr (by simp at aa;omega) (HT.out.below HB.out (Nat.le_refl _))
    obtain ⟨c,sz,R⟩:∃c sz,Ye (x::r)=(c,sz):=⟨_,_,rfl⟩;rw [R] at cb H;simp only at H
    have U:Hid (zO l=if sz=0 then ⟨0,[],0,0,6⟩ else if meant.length=255 then ⟨0,[],0,0,5⟩ else zx W (meant++[c.toUInt8]) (at0+sz) ((x::r).drop sz)):=show _=_ by
     rw [ae.out,if_neg h34,R]
    clear R h34;go_wp2_with fail
    refine cb.mono ?_;clear cb z Z;rintro e w2 ⟨rfl,L⟩;have ax:=L.size;have K:Below (w.heap.size+1) (w.alloc Zf) w2:=ai.out.trans (L.mono Q);obtain ⟨z,Z⟩:=ZW K;have ar:Hid (Below (w.heap.size+1) (w.alloc Zf) w2):=K;have ad:Hid (Below w.heap.size w w2):=HA.out.trans (K.mono (by omega))
    have T:Hid (w2.ownsRow (w.heap.size+1) 5 1 u5 meant.length (Lib.byteCells meant)):=U9 HO.out L (Nat.le_refl _);clear L K HO ai
    by_cases hs0:sz=0
    ·have M:Hid (zO l=⟨0,[],0,0,6⟩):=show _=_ by rw [U.out,if_pos hs0]
     subst hs0;go_wp2
     refine bodyPost_ret (v:=Zx ⟨0,[],0,0,6⟩) (by simp [results,Tryz.results163,go_sem,Zx,z]) rfl ⟨by rw [M.out],?_⟩
     exact zG ad.out _ _ _ _ _
    ·have aw:((sz:Int)==0)=false:=by rw [beq_eq_false_iff_ne];omega
     obtain ⟨y,I,rfl,-,-,-,-⟩:=ya T.out;obtain ⟨X,o⟩:∃X,X=meant.length:=⟨_,rfl⟩;have Y:Hid (X=meant.length):=o;rw [←o]
     by_cases h255:X=255
     ·have M:Hid (zO l=⟨0,[],0,0,5⟩):=show _=_ by rw [U.out,if_neg hs0,if_pos (by rw [←o];exact h255)]
      clear o;subst h255;go_wp2
      refine bodyPost_ret (v:=Zx ⟨0,[],0,0,5⟩) (by simp [results,Tryz.results163,go_sem,Zx,z]) rfl ⟨by rw [M.out],?_⟩
      exact zG ad.out _ _ _ _ _
     ·have ak:((X:Int)==255)=false:=by rw [beq_eq_false_iff_ne];omega
      have M:Hid (zO l=zx W (meant++[c.toUInt8]) (at0+sz) (l.drop (at0+sz))):=show _=_ by
       rw [U.out,if_neg hs0,if_neg (by rw [←o];exact h255),←ap.out,List.drop_drop]
      have ab:Hid (w2.ownsRow (w.heap.size+1) 5 1 (.slice y X I) meant.length (Lib.byteCells meant)):=by rw [o];exact T.out
      have V:=H.2;have aj:=H.1;rw [aa] at aj;have av:meant.length≤255:=al;clear o T H
      go_wp2_with (at_builtin;refine Zl rfl _ _ rfl (w.heap.size+1) _ meant rfl (ab.out.alloc _) _ [c.toUInt8] rfl (Zn V (by simp)) (by simp;omega) (by simp;omega) ?_)
      intro v3 w3 E G;have an:Hid (Below (w.heap.size+1) (w.alloc Zf) w3):=(ar.out.alloc (by omega) _).grown G (by simp;omega) (fun q hq=>(ab.out.lt q hq).1)
      have aq:Hid (w3.ownsRow (w.heap.size+1) 5 1 v3 (meant++[c.toUInt8]).length (Lib.byteCells (meant++[c.toUInt8]))):=by
       rw [show (meant++[c.toUInt8]).length=meant.length+1 by simp];exact E
      clear G E;go_wp2
      refine ⟨⟨W,at0+sz,meant++[c.toUInt8],by go_num,by omega,by omega,?_,M.out,aq.out,an.out⟩,by simp [intOf];omega⟩
      rw [List.length_append,List.length_singleton,←Y.out]
      have:=Y.out
      omega
  ·obtain rfl:at0=l.length:=by omega
   have M:Hid (zO l=⟨0,[],0,0,6⟩):=show _=_ by
    rw [ah.out,List.drop_length];cases f <;> rfl
   go_wp2
   refine bodyPost_ret (v:=Zx ⟨0,[],0,0,6⟩) (by simp [results,Tryz.results163,go_sem,Zx,z]) rfl ⟨by rw [M.out],?_⟩
   exact zG HB.out _ _ _ _ _
def zD (l:List UInt8):TR :=
 match l with
 | []=>⟨0,[],0,0,0⟩
 | x::_=>if zK x.toNat=true then Zk l else if zC x.toNat=true then yj l else if x.toNat=34 then zO l else ZM l
theorem QX {x:UInt8} {r:List UInt8} (h:zC x.toNat=true):digL (x::r)≠[]:=by
 unfold digL;simp [h]
theorem qa (l:List UInt8) (w:World) (hl:l.length≤140737488351232) (ht:Z1 w) :
  Calls Tryz.prog 141 #[.string (za l)] w fun e w'=>e=.returned (Zx (zD l))∧Below w.heap.size w w':=by
 have U:Below w.heap.size w (w.alloc Zf):=(Below.refl w.heap.size w).alloc (Nat.le_refl _) _;have O:Hid (Below w.heap.size w (w.alloc Zf)):=U;have Q:Hid (Z1 (w.alloc Zf)):=ht.alloc _;clear ht U;cases l with
 | nil =>
  go_enter Tryz.func141,Tryz.ntmps141
  go_wp2
  refine bodyPost_ret (v:=Zx ⟨0,[],0,0,0⟩) (by simp [results,Tryz.results141,go_sem,Zx]) rfl ⟨rfl,?_⟩
  exact O.out
 | cons x r =>
  have J:=fun wx=>ZU wx (x::r) 0 (by simp)
  rw [show ((0:Nat):Int)=0 from rfl,show (x::r)[0]=x from rfl] at J
  obtain ⟨n,N⟩:∃n,n=x.toNat:=⟨_,rfl⟩;rw [←N] at J;have G:n<256:=by rw [N];exact UInt8.toNat_lt x
  have I:Hid (zD (x::r)=if zK n=true then Zk (x::r) else if zC n=true then yj (x::r) else if n=34 then zO (x::r) else ZM (x::r)):=show _=_ by rw [N];rfl
  have Y:Hid (zC n=true→digL (x::r)≠[]):=fun h=>QX (by rw [←N];exact h)
  have Z:¬ (x::r)=[]:=by simp
  clear N
  go_enter Tryz.func141,Tryz.ntmps141
  have X:(x::r).length≤140737488351232:=hl;have H:Hid (∀(R:TR) (A:World),Below (w.alloc Zf).heap.size (w.alloc Zf) A→Below (w.heap.size+1) (w.alloc Zf) A):=fun R A h=>by rw [World.size_alloc] at h;exact h
  have V:=yL n G (w.alloc Zf);go_wp2_with fail
  refine V.mono ?_;clear V;rintro e A ⟨rfl,rfl⟩;cases h1:zK n with
  | true =>
   obtain ⟨R,D⟩:∃R,R=Zk (x::r):=⟨_,rfl⟩;have z:=vd (x::r) (w.alloc Zf) (by omega) Q.out
   rw [←D] at z;have M:Hid (zD (x::r)=R):=show _=_ by rw [I.out,if_pos h1,D]
   unfold Zx at z
   clear D;go_wp2_with fail
   refine z.mono ?_;clear z;rintro e A ⟨rfl,y⟩;have o:=H.out R A y;obtain ⟨E,K⟩:=ZW o;have L:Hid (Below w.heap.size w A):=O.out.trans (o.mono (by omega))
   clear y o;go_wp2
   refine bodyPost_ret (v:=Zx R) (by simp [results,Tryz.results141,go_sem,Zx,E]) rfl ⟨by rw [M.out],?_⟩
   exact zG L.out _ _ _ _ _
  | false =>
   have W:=YM n G (w.alloc Zf);go_wp2_with fail
   refine W.mono ?_;clear W;rintro e A ⟨rfl,rfl⟩;cases h2:zC n with
   | true =>
    obtain ⟨R,D⟩:∃R,R=yj (x::r):=⟨_,rfl⟩;have z:=Xh (x::r) (w.alloc Zf) (by omega) (Y.out h2) Q.out
    rw [←D] at z;have M:Hid (zD (x::r)=R):=show _=_ by rw [I.out,if_neg (by rw [h1];simp),if_pos h2,D]
    unfold Zx at z
    clear D;go_wp2_with fail
    refine z.mono ?_;clear z;rintro e A ⟨rfl,y⟩;have o:=H.out R A y;obtain ⟨E,K⟩:=ZW o;have L:Hid (Below w.heap.size w A):=O.out.trans (o.mono (by omega))
    clear y o;go_wp2
    refine bodyPost_ret (v:=Zx R) (by simp [results,Tryz.results141,go_sem,Zx,E]) rfl ⟨by rw [M.out],?_⟩
    exact zG L.out _ _ _ _ _
   | false =>
    by_cases h34:n=34
    ·obtain ⟨R,D⟩:∃R,R=zO (x::r):=⟨_,rfl⟩
     have z:=vj (x::r) (w.alloc Zf) (by omega) (by simp) Q.out
     rw [←D] at z;have M:Hid (zD (x::r)=R):=show _=_ by rw [I.out,if_neg (by rw [h1];simp),if_neg (by rw [h2];simp),if_pos h34,D]
     subst h34
     unfold Zx at z
     clear D;go_wp2_with fail
     refine z.mono ?_;clear z;rintro e A ⟨rfl,y⟩;have o:=H.out R A y;obtain ⟨E,K⟩:=ZW o;have L:Hid (Below w.heap.size w A):=O.out.trans (o.mono (by omega))
     clear y o;go_wp2
     refine bodyPost_ret (v:=Zx R) (by simp [results,Tryz.results141,go_sem,Zx,E]) rfl ⟨by rw [M.out],?_⟩
     exact zG L.out _ _ _ _ _
    ·obtain ⟨R,D⟩:∃R,R=ZM (x::r):=⟨_,rfl⟩
     have T:((n:Int)==34)=false:=by rw [beq_eq_false_iff_ne];omega
     have z:=vh (x::r) (w.alloc Zf) Q.out;rw [←D] at z;have M:Hid (zD (x::r)=R):=show _=_ by rw [I.out,if_neg (by rw [h1];simp),if_neg (by rw [h2];simp),if_neg h34,D]
     unfold Zx at z
     clear D;go_wp2_with fail
     refine z.mono ?_;clear z;rintro e A ⟨rfl,y⟩;have o:=H.out R A y;obtain ⟨E,K⟩:=ZW o;have L:Hid (Below w.heap.size w A):=O.out.trans (o.mono (by omega))
     clear y o;go_wp2
     refine bodyPost_ret (v:=Zx R) (by simp [results,Tryz.results141,go_sem,Zx,E]) rfl ⟨by rw [M.out],?_⟩
     exact zG L.out _ _ _ _ _
end Go.Proofs.YtmbofhpmockmbaaGreatDoor

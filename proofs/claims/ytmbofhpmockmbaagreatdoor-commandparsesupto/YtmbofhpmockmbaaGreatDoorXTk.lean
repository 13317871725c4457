import Derived.Test.YtmbofhpmockmbaaGreatDoorMC5
import Derived.Test.YtmbofhpmockmbaaGreatDoorWAll
import Derived.Deep.MidRow
import Derived.LoopN
namespace Go.Proofs.YtmbofhpmockmbaaGreatDoor
open Go.RowKit
set_option maxHeartbeats 16000000
set_option maxRecDepth 100000
structure TR where
 k:Nat
 s:List UInt8
 n:Nat
 sz:Nat
 e:Nat
def ZD (r:TR):Value:=.tuple #[.agg #[.int .i64 r.k,.string (za r.s),.int .i64 r.n,.int .i64 0,.int .i64 0],.int .i64 r.sz,.int .i64 r.e]
def Zh (l:List UInt8):List UInt8:=l.takeWhile fun c=>ZK c.toNat
def Zo (l:List UInt8):TR:=if ZB (Zh l)=true then ⟨5,Zh l,0,(Zh l).length,0⟩ else if 20<(Zh l).length then ⟨0,[],0,0,5⟩ else ⟨1,Zh l,0,(Zh l).length,0⟩
theorem Yo (p:UInt8→Bool) (l:List UInt8):l.take (l.takeWhile p).length=l.takeWhile p:=by
 induction l with
 | nil=>rfl
 | cons x l ih =>
  by_cases h:p x=true
  ·simp [h,ih]
  ·simp [h]
theorem XM (l:List UInt8):(Zh l).length≤l.length:=(List.takeWhile_sublist _).length_le
theorem Z4.alloc {w:World} (h:Z4 w) (o:Obj):Z4 (w.alloc o) :=
 ⟨fun j hj=>Lib.cell?_alloc_some o (h.words j hj),fun j hj=>Lib.cell?_alloc_some o (h.signs j hj),fun j hj=>Lib.cell?_alloc_some o (h.escs j hj),by obtain ⟨a,b,c⟩:=h.range;exact ⟨a,b,Lib.cell?_alloc_some o c⟩⟩
theorem Z4.below {w w':World} {B:Nat} (h:Z4 w) (hb:Below B w w') (hB:w.heap.size≤B):Z4 w':=by
 have e:∀{p:Addr} {v:Value},w.cell? p=some v→w'.cell? p=some v:=fun {p v} hp=>by
  rw [hb.cell (Nat.lt_of_lt_of_le (World.block_lt_of_cell? w _ hp) hB)];exact hp
 exact ⟨fun j hj=>e (h.words j hj),fun j hj=>e (h.signs j hj),fun j hj=>e (h.escs j hj),by obtain ⟨a,b,c⟩:=h.range;exact ⟨a,b,e c⟩⟩
theorem vF (l:List UInt8) (w:World) (hl:l.length≤9223372036854775000) (ht:Z4 w) :
  Calls Tryz.prog 160 #[.string (za l)] w fun e w'=>e=.returned (ZD (Zo l))∧Below w.heap.size w w':=by
 have I:Hid (Z4 w):=ht;have A:=XM l;obtain ⟨m,D⟩:∃m,m=(Zh l).length:=⟨_,rfl⟩;rw [←D] at A;have z:=fun wx=>XI wx l m A
 rw [show l.take m=Zh l by rw [D];exact Yo _ l] at z
 have y:Hid (m=(Zh l).length):=D;clear ht
 have J:Hid (∀wx,Calls Tryz.prog 152 #[.string (za l),.func (.func 173) #[] #[]] wx fun e w'=>e=.returned (.int .i64 m)∧wx=w'):=fun wx=>by
  rw [D];exact Qu l wx hl
 have H:Hid (∀wx,Z4 wx→Calls Tryz.prog 174 #[.string (za (Zh l))] wx fun e w'=>e=.returned (.bool (ZB (Zh l)))∧wx=w'):=fun wx h=>Qw _ wx h
 clear D;have L:=(Below.refl w.heap.size w).alloc (Nat.le_refl _);obtain ⟨x,E⟩:∃x,x=Zh l:=⟨_,rfl⟩;rw [←E] at z H y;have G:Hid (x=Zh l):=E;clear E
 go_enter Tryz.func160,Tryz.ntmps160
 go_wp2_with fail
 refine (J.out _).mono ?_;rintro e K ⟨rfl,rfl⟩;go_wp2_with fail
 refine (H.out _ (I.out.alloc _)).mono ?_;rintro e K ⟨rfl,rfl⟩;cases hq:ZB x with
 | true =>
  have o:Hid (Zo l=⟨5,x,0,m,0⟩):=by unfold Zo;rw [←G.out,if_pos hq,←y.out];rfl
  go_wp2
  refine bodyPost_ret (v:=ZD ⟨5,x,0,m,0⟩) (by simp [results,Tryz.results160,go_sem,ZD]) rfl ⟨by rw [o.out],?_⟩
  exact (Below.refl w.heap.size w).alloc (Nat.le_refl _) _
 | false =>
  by_cases h20:20<m
  ·have o:Hid (Zo l=⟨0,[],0,0,5⟩):=by unfold Zo;rw [←G.out,if_neg (by rw [hq];simp),if_pos (by rw [←y.out];exact h20)];rfl
   go_wp2
   refine bodyPost_ret (v:=ZD ⟨0,[],0,0,5⟩) (by simp [results,Tryz.results160,go_sem,ZD]) rfl ⟨by rw [o.out],?_⟩
   exact (Below.refl w.heap.size w).alloc (Nat.le_refl _) _
  ·have o:Hid (Zo l=⟨1,x,0,m,0⟩):=by unfold Zo;rw [←G.out,if_neg (by rw [hq];simp),if_neg (by rw [←y.out];exact h20),←y.out];rfl
   go_wp2
   refine bodyPost_ret (v:=ZD ⟨1,x,0,m,0⟩) (by simp [results,Tryz.results160,go_sem,ZD]) rfl ⟨by rw [o.out],?_⟩
   exact (Below.refl w.heap.size w).alloc (Nat.le_refl _) _
def valA (acc:Nat):List UInt8→Nat
 | []=>acc
 | c::r=>valA (acc*10+(c.toNat-48)) r
theorem VE:∀(r:List UInt8) (acc:Nat),acc≤valA acc r
 | [],_=>Nat.le_refl _
 | c::r,acc=>Nat.le_trans (by omega) (VE r (acc*10+(c.toNat-48)))
theorem VF (ds:List UInt8):∀(e:Nat),(∀c∈ds,zE c.toNat=true)→e<18446744073709551616 →
  Lib.parseUint10 e ds=if valA e ds<18446744073709551616 then .ok (valA e ds) else .range:=by
 induction ds with
 | nil =>
  intro e _ y;rw [show valA e []=e from rfl,if_pos y]
  rfl
 | cons c r ih =>
  intro e h y;have o:=h c (List.mem_cons_self ..)
  unfold zE at o
  rw [Bool.and_eq_true,decide_eq_true_eq,decide_eq_true_eq] at o;have z:=VE r (e*10+(c.toNat-48));rw [show valA e (c::r)=valA (e*10+(c.toNat-48)) r from rfl]
  unfold Lib.parseUint10
  rw [if_pos o]
  by_cases h1:1844674407370955162≤e
  ·rw [if_pos h1,if_neg (by omega)]
  ·rw [if_neg h1]
   by_cases h2:18446744073709551616≤e*10+(c.toNat-48)
   ·rw [if_pos h2,if_neg (by omega)]
   ·rw [if_neg h2]
    exact ih _ (fun d hd=>h d (List.mem_cons_of_mem _ hd)) (by omega)
theorem uj {ds:List UInt8} (h:∀c∈ds,zE c.toNat=true) (hne:ds≠[]) :
  Lib.atoiAll ds=if valA 0 ds<9223372036854775808 then .ok (valA 0 ds:Int) else .range:=by
 cases ds with
 | nil=>exact absurd rfl hne
 | cons c r =>
  have y:=h c (List.mem_cons_self ..)
  unfold zE at y
  rw [Bool.and_eq_true,decide_eq_true_eq,decide_eq_true_eq] at y;have A:¬ (c.toNat=43∨c.toNat=45):=by omega
  have e:¬ c.toNat=45:=by omega
  have o:Lib.parseMag (c::r)=if valA 0 (c::r)<18446744073709551616 then .ok (valA 0 (c::r)) else .range:=by
   unfold Lib.parseMag;rw [if_neg (by simp)];exact VF _ 0 h (by omega)
  generalize valA 0 (c::r)=v at o ⊢;have z:(if c.toNat=43∨c.toNat=45 then r else c::r)=c::r:=if_neg A
  unfold Lib.atoiAll
  simp only [z];rw [o]
  by_cases h3:v<18446744073709551616
  ·rw [if_pos h3]
   by_cases h4:v<9223372036854775808
   ·simp only
    rw [if_neg (by omega),if_neg (by omega),if_neg e,if_pos h4]
   ·simp only
    rw [if_pos ⟨e,by omega⟩,if_neg h4]
  ·rw [if_neg h3,if_neg (by omega)]
theorem Y6 {p:UInt8→Bool}:∀(l:List UInt8) (c:UInt8),c∈l.takeWhile p→p c=true
 | [],c,h=>by simp at h
 | x::l,c,h=>by
  by_cases hx:p x=true
  ·rw [List.takeWhile_cons_of_pos hx] at h
   rcases List.mem_cons.1 h with rfl | h
   ·exact hx
   ·exact Y6 l c h
  ·rw [List.takeWhile_cons_of_neg hx] at h
   simp at h
def digL (l:List UInt8):List UInt8:=l.takeWhile fun c=>zE c.toNat
def ym (l:List UInt8):TR:=if valA 0 (digL l)<9223372036854775808 then ⟨2,[],valA 0 (digL l),(digL l).length,0⟩ else ⟨0,[],0,0,5⟩
theorem UV (l:List UInt8):(digL l).length≤l.length:=(List.takeWhile_sublist _).length_le
theorem XN (l:List UInt8):∀c∈digL l,zE c.toNat=true:=fun c hc=>Y6 (p:=fun c=>zE c.toNat) l c hc
theorem Xr (l:List UInt8) (w:World) (hl:l.length≤140737488351232) (hne:digL l≠[]) (ht:Z4 w) :
  Calls Tryz.prog 162 #[.string (za l)] w fun e w'=>e=.returned (ZD (ym l))∧Below w.heap.size w w':=by
 have Y:Hid (Z4 w):=ht;have I:=UV l;obtain ⟨m,J⟩:∃m,m=(digL l).length:=⟨_,rfl⟩;rw [←J] at I;have H:=fun wx=>XI wx l m I
 rw [show l.take m=digL l by rw [J];exact Yo _ l] at H
 have L:Hid (m=(digL l).length):=J;have T:m≤140737488351232:=by omega
 clear ht
 have Z:Hid (∀wx,Calls Tryz.prog 152 #[.string (za l),.func (.func 161) #[] #[]] wx fun e w'=>e=.returned (.int .i64 m)∧wx=w'):=fun wx=>by
  rw [J];exact qu l wx (by omega)
 have y:=uj (XN l) hne;obtain ⟨x,N⟩:∃x,x=digL l:=⟨_,rfl⟩;rw [←N] at H L y;obtain ⟨v,O⟩:∃v,v=valA 0 x:=⟨_,rfl⟩;rw [←O] at y;have X:Hid (x=digL l):=N;have U:Hid (v=valA 0 x):=O;have K:Hid (Lib.atoiAll x=if v<9223372036854775808 then .ok (v:Int) else .range):=y
 clear N O y J
 go_enter Tryz.func162,Tryz.ntmps162
 go_wp2_with fail
 refine (Z.out _).mono ?_;rintro e w1 ⟨rfl,rfl⟩
 by_cases h63:v<9223372036854775808
 ·have D:=fun wx=>Tryz.strconv_Atoi_ok (za x) (by rw [ZE,←L.out];omega) v (by show Lib.atoiAll x=_;rw [K.out,if_pos h63]) wx
  have M:Hid (ym l=⟨2,[],v,m,0⟩):=by unfold ym;rw [←X.out,←U.out,if_pos h63,←L.out];rfl
  go_wp2_with fail
  refine (D _).mono ?_;clear D;rintro e w1 ⟨rfl,G⟩
  have h:Below (w.heap.size+1) (w.alloc (Obj.cells #[Value.int IntKind.i64 0,Value.string ⟨#[]⟩,Value.int IntKind.i64 0,Value.int IntKind.i64 0,Value.int IntKind.i64 0] 142)) w1:=by
   rcases G with rfl | ⟨t,rfl⟩
   ·exact Below.refl _ _
   ·have E:=Lib.bytesWorld_below (w.alloc (Obj.cells #[Value.int IntKind.i64 0,Value.string ⟨#[]⟩,Value.int IntKind.i64 0,Value.int IntKind.i64 0,Value.int IntKind.i64 0] 142)) 5 t
    rw [World.size_alloc] at E;exact E
  clear G
  obtain ⟨z,R⟩:(∀o,w1.cell? ⟨w.heap.size,o,none⟩=(w.alloc (Obj.cells #[Value.int IntKind.i64 0,Value.string ⟨#[]⟩,Value.int IntKind.i64 0,Value.int IntKind.i64 0,Value.int IntKind.i64 0] 142)).cell? ⟨w.heap.size,o,none⟩)∧(∀o,w1.frozen? ⟨w.heap.size,o,none⟩=(w.alloc (Obj.cells #[Value.int IntKind.i64 0,Value.string ⟨#[]⟩,Value.int IntKind.i64 0,Value.int IntKind.i64 0,Value.int IntKind.i64 0] 142)).frozen? ⟨w.heap.size,o,none⟩) :=
   ⟨fun o=>h.cell (p:=⟨w.heap.size,o,none⟩) (by simp),fun o=>h.frozen (p:=⟨w.heap.size,o,none⟩) (by simp)⟩
  have Q:Hid (Below w.heap.size w w1):=((Below.refl w.heap.size w).alloc (Nat.le_refl _) _).trans (h.mono (by omega))
  clear h;go_wp2
  refine bodyPost_ret (v:=ZD ⟨2,[],v,m,0⟩) (by simp [results,Tryz.results162,go_sem,ZD,z]) rfl ⟨by rw [M.out],?_⟩
  exact ((((Q.out.setCell (p:=⟨w.heap.size,0,none⟩) (Nat.le_refl _) _).setCell (p:=⟨w.heap.size,1,none⟩) (Nat.le_refl _) _).setCell (p:=⟨w.heap.size,2,none⟩) (Nat.le_refl _) _).setCell (p:=⟨w.heap.size,3,none⟩) (Nat.le_refl _) _).setCell (p:=⟨w.heap.size,4,none⟩) (Nat.le_refl _) _
 ·obtain ⟨W,V,A⟩:=Y.out.range
  have D:=Tryz.strconv_Atoi_range (za x) (by rw [ZE,←L.out];omega) (by show Lib.atoiAll x=_;rw [K.out,if_neg h63]) (.iface W V) (w.alloc (Obj.cells #[Value.int IntKind.i64 0,Value.string ⟨#[]⟩,Value.int IntKind.i64 0,Value.int IntKind.i64 0,Value.int IntKind.i64 0] 142)) (Lib.cell?_alloc_some _ A) (.inr ⟨W,V,rfl⟩)
  have M:Hid (ym l=⟨0,[],0,0,5⟩):=by unfold ym;rw [←X.out,←U.out,if_neg h63];rfl
  go_wp2_with fail
  refine D.mono ?_;clear D;rintro e w1 ⟨NN,rfl,-,-,h⟩;rw [World.size_alloc] at h
  obtain ⟨z,R⟩:(∀o,w1.cell? ⟨w.heap.size,o,none⟩=(w.alloc (Obj.cells #[Value.int IntKind.i64 0,Value.string ⟨#[]⟩,Value.int IntKind.i64 0,Value.int IntKind.i64 0,Value.int IntKind.i64 0] 142)).cell? ⟨w.heap.size,o,none⟩)∧(∀o,w1.frozen? ⟨w.heap.size,o,none⟩=(w.alloc (Obj.cells #[Value.int IntKind.i64 0,Value.string ⟨#[]⟩,Value.int IntKind.i64 0,Value.int IntKind.i64 0,Value.int IntKind.i64 0] 142)).frozen? ⟨w.heap.size,o,none⟩) :=
   ⟨fun o=>h.cell (p:=⟨w.heap.size,o,none⟩) (by simp),fun o=>h.frozen (p:=⟨w.heap.size,o,none⟩) (by simp)⟩
  have Q:Hid (Below w.heap.size w w1):=((Below.refl w.heap.size w).alloc (Nat.le_refl _) _).trans (h.mono (by omega))
  clear h A;go_wp2
  refine bodyPost_ret (v:=ZD ⟨0,[],0,0,5⟩) (by simp [results,Tryz.results162,go_sem,ZD,z]) rfl ⟨by rw [M.out],?_⟩
  exact ((((Q.out.setCell (p:=⟨w.heap.size,0,none⟩) (Nat.le_refl _) _).setCell (p:=⟨w.heap.size,1,none⟩) (Nat.le_refl _) _).setCell (p:=⟨w.heap.size,2,none⟩) (Nat.le_refl _) _).setCell (p:=⟨w.heap.size,3,none⟩) (Nat.le_refl _) _).setCell (p:=⟨w.heap.size,4,none⟩) (Nat.le_refl _) _
def longer (l best x:List UInt8):List UInt8:=if best.length<x.length∧Lib.hasPrefix l x=true then x else best
def bestS (l:List UInt8) (n:Nat):List UInt8:=(signsL.take n).foldl (longer l) []
def ZQ (l:List UInt8):TR:=if bestS l 25=[] then ⟨0,[],0,0,6⟩ else ⟨4,bestS l 25,0,(bestS l 25).length,0⟩
theorem Uo (l:List UInt8) (n:Nat) (h:n<signsL.length):bestS l (n+1)=longer l (bestS l n) signsL[n]:=by
 unfold bestS;rw [List.take_succ_eq_append_getElem h,List.foldl_append];rfl
theorem Ve (l:List UInt8) (n:Nat):(bestS l n).length≤2:=by
 have z:∀(e:List (List UInt8)) (b:List UInt8),(∀x∈e,x.length≤2)→b.length≤2→(e.foldl (longer l) b).length≤2:=by
  intro e
  induction e with
  | nil=>intro b _ o;exact o
  | cons x e ih =>
   intro b h o;refine ih _ (fun y hy=>h y (List.mem_cons_of_mem _ hy)) ?_
   unfold longer
   split
   ·exact h x (List.mem_cons_self ..)
   ·exact o
 exact z _ _ (fun x h=>by
  have:∀x∈signsL,x.length≤2:=by decide
  exact this x (List.mem_of_mem_take h)) (by simp)
def xS:List Value:=signsL.map fun x=>.string (za x)
def signsV:Value:=.agg xS.toArray
theorem uk {w:World} (ht:Z4 w):w.rangeAt 8 0 xS:=fun j v hv=>by
 unfold xS at hv
 rw [List.getElem?_map] at hv;rcases Nat.lt_or_ge j signsL.length with h | h
 ·rw [List.getElem?_eq_getElem h] at hv
  simp only [Option.map_some,Option.some.injEq] at hv;rw [Nat.zero_add,ht.signs j h,hv]
 ·rw [List.getElem?_eq_none h] at hv;cases hv
theorem Up:(Tryz.prog.info? 225).map (·.size)=some xS.length:=by kernel_rfl
theorem vG (l:List UInt8) (w:World) (ht:Z4 w) :
  Calls Tryz.prog 164 #[.string (za l)] w fun e w'=>e=.returned (ZD (ZQ l))∧Below w.heap.size w w':=by
 have R:Hid (Z4 w):=ht;clear ht
 go_enter Tryz.func164,Tryz.ntmps164
 go_wp2_with (refine wpList_load_mid rfl 225 _ rfl 8 0 rfl xS _ (uk (R.out.alloc _)) Tryz.underlying225 rfl Up ?_)
 have O:Hid (∀(wx:World) (i:Nat) (h:i<25),(Instr.index 225 signsV (.int .i64 (i:Int))).run Tryz.prog wx=.ok (.string (za (signsL[i]'h))) wx):=fun wx i h=>qy wx i h
 rw [show Value.agg xS.toArray=signsV from rfl]
 generalize signsV=A at *
 go_loop [5,9] (fun vb v=>∃i:Nat,i≤25∧v=.int .i64 i∧vb=.string (za (bestS l i))) (fun _ v=>25-(intOf v).toNat)
 case atStart=>exact ⟨0,Nat.zero_le _,rfl,rfl⟩
 case round =>
  obtain ⟨i,U,rfl,rfl⟩:=hrel;have I:=Ve l i;obtain ⟨b,J⟩:∃b,b=bestS l i:=⟨_,rfl⟩;rw [←J] at I ⊢;have L:Hid (b=bestS l i):=J;clear J
  by_cases hlt:i<25
  ·have z:=fun wx=>O.out wx i hlt
   obtain ⟨x,G⟩:∃x,x=signsL[i]'hlt:=⟨_,rfl⟩;rw [←G] at z
   have N:x.length≤2:=by
    have:∀x∈signsL,x.length≤2:=by decide
    rw [G];exact this _ (List.getElem_mem _)
   have K:Hid (bestS l (i+1)=longer l b x):=show bestS l (i+1)=longer l b x by rw [Uo l i hlt,L.out,G]
   have Q:(za x).size=x.length:=rfl;have M:(za b).size=b.length:=rfl;clear G
   by_cases hlen:b.length<x.length
   ·have E:=fun wx=>Tryz.strings_HasPrefix (za l) (za x) wx
    cases hp:Lib.hasPrefix l x with
    | true =>
     have D:Lib.hasPrefix (za l).data.toList (za x).data.toList=true:=hp;rw [D] at E;have o:Hid (bestS l (i+1)=x):=show bestS l (i+1)=x by rw [K.out];unfold longer;rw [if_pos ⟨hlen,hp⟩]
     clear D;go_wp2_with (go_at_call 154;refine (E _).mono ?_;rintro e T ⟨rfl,rfl⟩)
     refine ⟨⟨i+1,by omega,by go_num,by rw [o.out]⟩,by simp [intOf];omega⟩
    | false =>
     have D:Lib.hasPrefix (za l).data.toList (za x).data.toList=false:=hp;rw [D] at E;have o:Hid (bestS l (i+1)=b):=show bestS l (i+1)=b by rw [K.out];unfold longer;rw [if_neg (fun h=>by rw [hp] at h;exact absurd h.2 (by decide))]
     clear D;go_wp2_with (go_at_call 154;refine (E _).mono ?_;rintro e T ⟨rfl,rfl⟩)
     refine ⟨⟨i+1,by omega,by go_num,by rw [o.out]⟩,by simp [intOf];omega⟩
   ·have o:Hid (bestS l (i+1)=b):=show bestS l (i+1)=b by rw [K.out];unfold longer;rw [if_neg (fun h=>hlen h.1)]
    go_wp2
    refine ⟨⟨i+1,by omega,by go_num,by rw [o.out]⟩,by simp [intOf];omega⟩
  ·obtain rfl:i=25:=by omega
   have M:(za b).size=b.length:=rfl;cases b with
   | nil =>
    have H:Hid (ZQ l=⟨0,[],0,0,6⟩):=by unfold ZQ;rw [←L.out,if_pos rfl];rfl
    go_wp2
    refine bodyPost_ret (v:=ZD ⟨0,[],0,0,6⟩) (by simp [results,Tryz.results164,go_sem,ZD]) rfl ⟨by rw [H.out],?_⟩
    exact (Below.refl w.heap.size w).alloc (Nat.le_refl _) _
   | cons y ys =>
    have H:Hid (ZQ l=⟨4,y::ys,0,(y::ys).length,0⟩):=by unfold ZQ;rw [←L.out,if_neg (by simp)];rfl
    go_wp2
    refine bodyPost_ret (v:=ZD ⟨4,y::ys,0,(y::ys).length,0⟩) (by simp [results,Tryz.results164,go_sem,ZD]) rfl ⟨by rw [H.out],?_⟩
    exact (Below.refl w.heap.size w).alloc (Nat.le_refl _) _
def Ym:List UInt8→Nat × Nat
 | []=>(0,0)
 | x::r=>if x.toNat<32∨126<x.toNat then (0,0) else if x.toNat≠92 then (x.toNat,1) else
  match r with
  | []=>(0,0)
  | y::_=>if y.toNat=92 then (92,2) else if y.toNat=34 then (34,2) else if y.toNat=110 then (10,2) else (0,0)
theorem ZT (w:World) (l:List UInt8) (i:Nat) (h:i<l.length):(Instr.index 9 (.string (za l)) (.int .i64 (i:Int))).run Tryz.prog w=.ok (.int .u8 ((l[i]).toNat:Int)) w:=by
 rw [run_index_string (P:=Tryz.prog) (w:=w) 9 (za l) .i64 _ Tryz.underlying9,dif_pos ⟨by omega,by rw [ZE];omega⟩]
 simp only [Int.toNat_natCast]
 rfl
theorem Vf {a:Nat × Nat} {c k:Nat} (h:a=(c,k)):(Ending.returned (.tuple #[.int .u8 (c:Int),.int .i64 (k:Int)]):Ending)=.returned (.tuple #[.int .u8 (a.1:Int),.int .i64 (a.2:Int)]):=by rw [h]
theorem xH {x:UInt8} {r:List UInt8} (h:x.toNat<32∨126<x.toNat):Ym (x::r)=(0,0):=by
 show (if _ then _ else _)=_;rw [if_pos h]
theorem xI {x:UInt8} {r:List UInt8} (h:¬ (x.toNat<32∨126<x.toNat)) (h2:x.toNat≠92):Ym (x::r)=(x.toNat,1):=by
 show (if _ then _ else _)=_;rw [if_neg h,if_pos h2]
theorem Xv {x:UInt8} (h:¬ (x.toNat<32∨126<x.toNat)) (h2:x.toNat=92):Ym [x]=(0,0):=by
 show (if _ then _ else _)=_;rw [if_neg h,if_neg (by omega)]
def qz (m:Nat):Nat × Nat:=if m=92 then (92,2) else if m=34 then (34,2) else if m=110 then (10,2) else (0,0)
theorem Xw {x y:UInt8} {t:List UInt8} (h:¬ (x.toNat<32∨126<x.toNat)) (h2:x.toNat=92):Ym (x::y::t)=qz y.toNat:=by
 show (if _ then _ else _)=_;rw [if_neg h,if_neg (by omega)];rfl
def VG:List Nat:=[92,34,110]
def zaM:List Nat:=[92,34,10]
theorem zaN {m i:Nat} (hi:i<3) (h:∀j (hj:j<3),j<i→(VG[j]'hj)≠m) (he:(VG[i]'hi)=m):qz m=((zaM[i]'hi),2):=by
 have e:i=0∨i=1∨i=2:=by omega
 rcases e with rfl | rfl | rfl
 ·rw [←he];rfl
 ·rw [←he];rfl
 ·rw [←he];rfl
theorem zam {m:Nat} (h:∀j (hj:j<3),(VG[j]'hj)≠m):qz m=(0,0):=by
 have o:92≠m:=h 0 (by decide)
 have y:34≠m:=h 1 (by decide)
 have e:110≠m:=h 2 (by decide)
 unfold qz
 rw [if_neg (by omega),if_neg (by omega),if_neg (by omega)]
theorem Qx (w:World) (i:Nat) (h:i<3):(Instr.index 229 (.agg #[.int .u8 92,.int .u8 92,.int .u8 34,.int .u8 34,.int .u8 10,.int .u8 110]) (.int .i64 (i:Int))).run Tryz.prog w=.ok (.agg #[.int .u8 ((zaM[i]'h:Nat):Int),.int .u8 ((VG[i]'h:Nat):Int)]) w:=by
 have e:i=0∨i=1∨i=2:=by omega
 rcases e with rfl | rfl | rfl
 all_goals rfl
theorem VH (x:UInt8) (r:List UInt8) (w:World) (hl:r.length≤9223372036854775000) (ht:Z4 w) :
  Calls Tryz.prog 175 #[.string (za (x::r))] w fun e w'=>e=.returned (.tuple #[.int .u8 (Ym (x::r)).1,.int .i64 (Ym (x::r)).2])∧Below w.heap.size w w':=by
 have N:=fun wx=>ZT wx (x::r) 0 (by simp)
 rw [show ((0:Nat):Int)=0 from rfl,show (x::r)[0]=x from rfl] at N
 have z:(za (x::r)).size=r.length+1:=rfl;obtain ⟨n,o⟩:∃n,n=x.toNat:=⟨_,rfl⟩;have O:n<256:=by rw [o];exact UInt8.toNat_lt x
 rw [←o] at N;obtain ⟨S,I⟩:∃S,S=za (x::r):=⟨_,rfl⟩;rw [←I] at N z ⊢;have U:=ht.escs 0 (by decide)
 have W:=ht.escs 1 (by decide)
 have Y:=ht.escs 2 (by decide)
 have Z:=ht.escs 3 (by decide)
 have X:=ht.escs 4 (by decide)
 have e5:=ht.escs 5 (by decide)
 simp only [List.getElem_cons_zero,List.getElem_cons_succ] at U W Y Z X e5;clear ht
 by_cases hbad:n<32∨126<n
 ·have A:Hid (Ym (x::r)=(0,0)):=xH (by rw [←o];exact hbad)
  clear I o;rcases hbad with H | H
  ·go_enter Tryz.func175,Tryz.ntmps175
   go_wp2
   go_ret2
   exact ⟨Vf A.out,Below.refl _ _⟩
  ·go_enter Tryz.func175,Tryz.ntmps175
   go_wp2
   go_ret2
   exact ⟨Vf A.out,Below.refl _ _⟩
 ·by_cases h92:n=92
  ·cases r with
   | nil =>
    have A:Hid (Ym [x]=(0,0)):=Xv (by rw [←o];exact hbad) (by rw [←o];exact h92)
    have ab:S.size=1:=z;clear I o hbad z;subst h92
    go_enter Tryz.func175,Tryz.ntmps175
    go_wp2
    go_ret2
    exact ⟨Vf A.out,Below.refl _ _⟩
   | cons y t =>
    have h1:=fun wx=>ZT wx (x::y::t) 1 (by simp)
    rw [show ((1:Nat):Int)=1 from rfl,show (x::y::t)[1]=y from rfl] at h1
    obtain ⟨m,M⟩:∃m,m=y.toNat:=⟨_,rfl⟩;have Q:m<256:=by rw [M];exact UInt8.toNat_lt y
    rw [←M,←I] at h1;have K:Hid (Ym (x::y::t)=qz m):=show _=_ by rw [M];exact Xw (by rw [←o];exact hbad) (by rw [←o];exact h92)
    have V:S.size=t.length+2:=z;have aa:((t.length:Int)+2==1)=false:=by rw [beq_eq_false_iff_ne];omega
    have ae:t.length+1≤9223372036854775000:=by simpa using hl
    clear I o hbad z M hl;subst h92
    go_enter Tryz.func175,Tryz.ntmps175
    go_wp2
    clear U W Y Z X e5
    go_loopw [26] (fun v wr=>∃i:Nat,i≤3∧v=.int .i64 i∧(∀j (hj:j<3),j<i→(VG[j]'hj)≠m)∧Below w.heap.size w wr) (fun v _=>3-(intOf v).toNat)
    case atStart=>exact ⟨0,Nat.zero_le _,rfl,fun j _ h=>by omega,Below.refl _ _⟩
    case round =>
     obtain ⟨i,hi,rfl,D,G⟩:=hrel;have T:Hid (∀j (hj:j<3),j<i→(VG[j]'hj)≠m):=D;have R:Hid (Below w.heap.size w wr):=G;have E:=G.size;clear D G
     by_cases hlt:i<3
     ·have J:=fun wx=>Qx wx i hlt
      obtain ⟨a,L⟩:∃a,a=zaM[i]'hlt:=⟨_,rfl⟩;obtain ⟨b,H⟩:∃b,b=VG[i]'hlt:=⟨_,rfl⟩;rw [←L,←H] at J
      by_cases he:b=m
      ·have A:Hid (Ym (x::y::t)=(a,2)):=show _=_ by rw [K.out,L];exact zaN hlt T.out (by rw [←H];exact he)
       subst he;clear L H;go_wp2
       go_quiet (fail)
       go_wp2
       go_ret2
       refine ⟨Vf A.out,?_⟩;exact (R.out.alloc E _).trans ⟨rfl,rfl,rfl,Nat.le_refl _,fun _ _=>rfl⟩
      ·have ad:((b:Int)==(m:Int))=false:=by rw [beq_eq_false_iff_ne];omega
       have HE:Hid ((VG[i]'hlt)≠m):=show (VG[i]'hlt)≠m by rw [←H];exact he
       clear L H he;go_wp2
       go_quiet (fail)
       go_wp2
       refine ⟨⟨i+1,by omega,by go_num,fun j hj hji=>?_,(R.out.alloc E _).trans ⟨rfl,rfl,rfl,Nat.le_refl _,fun _ _=>rfl⟩⟩,by simp [intOf];omega⟩
       by_cases h:j<i
       ·exact T.out j hj h
       ·obtain rfl:j=i:=by omega
        exact HE.out
     ·obtain rfl:i=3:=by omega
      have A:Hid (Ym (x::y::t)=(0,0)):=show _=_ by rw [K.out];exact zam (fun j hj=>T.out j hj hj)
      go_wp2
      go_ret2
      exact ⟨Vf A.out,R.out⟩
  ·have A:Hid (Ym (x::r)=(n,1)):=show Ym (x::r)=(n,1) by rw [o];exact xI (by rw [←o];exact hbad) (by rw [←o];exact h92)
   have af:32≤n:=by omega
   have ag:n≤126:=by omega
   clear I o hbad
   go_enter Tryz.func175,Tryz.ntmps175
   go_wp2
   go_ret2
   exact ⟨Vf A.out,Below.refl _ _⟩
def zz:Nat→List UInt8→Nat→List UInt8→TR
 | 0,_,_,_=>⟨0,[],0,0,6⟩
 | _+1,_,_,[]=>⟨0,[],0,0,6⟩
 | f+1,meant,at0,x::r=>if x.toNat=34 then ⟨3,meant,0,at0+1,0⟩ else if (Ym (x::r)).2=0 then ⟨0,[],0,0,6⟩ else if meant.length=255 then ⟨0,[],0,0,5⟩
  else zz f (meant++[(Ym (x::r)).1.toUInt8]) (at0+(Ym (x::r)).2) ((x::r).drop (Ym (x::r)).2)
def zQ (l:List UInt8):TR:=zz l.length [] 1 (l.drop 1)
theorem Qy (l:List UInt8):(Ym l).2≤l.length∧(Ym l).1<256:=by
 cases l with
 | nil=>exact ⟨Nat.le_refl _,by decide⟩
 | cons x r =>
  by_cases h:x.toNat<32∨126<x.toNat
  ·rw [xH h];simp
  ·by_cases h2:x.toNat=92
   ·cases r with
    | nil=>rw [Xv h h2];simp
    | cons y t =>
     rw [Xw h h2]
     unfold qz
     split
     ·simp
     ·split
      ·simp
      ·split <;> simp
   ·rw [xI h h2]
    have:=UInt8.toNat_lt x
    simp;omega
abbrev Zi:Obj:=Obj.cells #[Value.int IntKind.i64 0,Value.string ⟨#[]⟩,Value.int IntKind.i64 0,Value.int IntKind.i64 0,Value.int IntKind.i64 0] 142
theorem ZZ {w w1:World} (hb:Below (w.heap.size+1) (w.alloc Zi) w1) :
  (∀o,w1.cell? ⟨w.heap.size,o,none⟩=(w.alloc Zi).cell? ⟨w.heap.size,o,none⟩)∧(∀o,w1.frozen? ⟨w.heap.size,o,none⟩=(w.alloc Zi).frozen? ⟨w.heap.size,o,none⟩) :=
 ⟨fun o=>hb.cell (p:=⟨w.heap.size,o,none⟩) (by simp),fun o=>hb.frozen (p:=⟨w.heap.size,o,none⟩) (by simp)⟩
theorem zI {w w1:World} (h:Below w.heap.size w w1) (a b c d e:Value) :
  Below w.heap.size w (((((w1.setCell ⟨w.heap.size,0,none⟩ a).setCell ⟨w.heap.size,1,none⟩ b).setCell ⟨w.heap.size,2,none⟩ c).setCell ⟨w.heap.size,3,none⟩ d).setCell ⟨w.heap.size,4,none⟩ e) :=
 ((((h.setCell (p:=⟨w.heap.size,0,none⟩) (Nat.le_refl _) _).setCell (p:=⟨w.heap.size,1,none⟩) (Nat.le_refl _) _).setCell (p:=⟨w.heap.size,2,none⟩) (Nat.le_refl _) _).setCell (p:=⟨w.heap.size,3,none⟩) (Nat.le_refl _) _).setCell (p:=⟨w.heap.size,4,none⟩) (Nat.le_refl _) _
theorem qA {w w':World} {B C e n:Nat} {v:Value} {xs:List Value} (h:w.ownsRow B e 1 v n xs) (hb:Below C w w') (hC:w.heap.size≤C):w'.ownsRow B e 1 v n xs :=
 h.kept (row:=none) ⟨hb.os,hb.tape,hb.output,hb.size,fun k hk _=>hb.block k (by omega)⟩ (by cases h':v.ownBlock <;> simp)
theorem vH (l:List UInt8) (w:World) (hl:l.length≤140737488351232) (hl1:1≤l.length) (ht:Z4 w) :
  Calls Tryz.prog 163 #[.string (za l)] w fun e w'=>e=.returned (ZD (zQ l))∧Below w.heap.size w w':=by
 have HT:Hid (Z4 w):=ht;have az:(za l).size=l.length:=rfl;have hA:Below w.heap.size w (w.alloc Zi):=(Below.refl w.heap.size w).alloc (Nat.le_refl _) _;have HA:Hid (Below w.heap.size w (w.alloc Zi)):=hA;clear ht hA
 go_enter Tryz.func163,Tryz.ntmps163
 go_wp2
 go_loopw [5,6] (fun vm va wr=>∃(f at0:Nat) (meant:List UInt8),va=.int .i64 at0∧at0≤l.length∧l.length≤at0+f∧meant.length≤255∧zQ l=zz f meant at0 (l.drop at0) ∧
   wr.ownsRow (w.heap.size+1) 5 1 vm meant.length (Lib.byteCells meant)∧Below (w.heap.size+1) (w.alloc Zi) wr) (fun _ a _=>l.length-(intOf a).toNat)
 case atStart=>exact ⟨l.length,1,[],rfl,hl1,by omega,by simp,rfl,World.ownsRow_nil _ _ _ _,Below.refl _ _⟩
 case round =>
  obtain ⟨f,at0,meant,rfl,aB,aA,aq,aj,O,H⟩:=hrel;have af:Hid (zQ l=zz f meant at0 (l.drop at0)):=aj;have ah:Hid (Below (w.heap.size+1) (w.alloc Zi) wr):=H;have HB:Hid (Below w.heap.size w wr):=HA.out.trans (H.mono (by omega))
  have Q:=H.size;rw [World.size_alloc] at Q;obtain ⟨z,Z⟩:=ZZ H;have HO:Hid (wr.ownsRow (w.heap.size+1) 5 1 u5 meant.length (Lib.byteCells meant)):=O;clear aj H O
  by_cases hlt:at0<l.length
  ·obtain ⟨x,r,A⟩:∃x r,l.drop at0=x::r:=⟨l[at0],l.drop (at0+1),List.drop_eq_getElem_cons hlt⟩
   have ab:l[at0]=x:=by
    have h:=List.drop_eq_getElem_cons hlt;rw [A] at h;exact (List.cons.inj h).1.symm
   have N:=fun wx=>ZT wx l at0 hlt
   rw [ab] at N;obtain ⟨n,hn⟩:∃n,n=x.toNat:=⟨_,rfl⟩;rw [←hn] at N;have ak:n<256:=by rw [hn];exact UInt8.toNat_lt x
   obtain ⟨W,rfl⟩:∃W,f=W+1:=⟨f-1,by omega⟩
   have Y:Hid (zQ l=if n=34 then ⟨3,meant,0,at0+1,0⟩ else if (Ym (x::r)).2=0 then ⟨0,[],0,0,6⟩ else if meant.length=255 then ⟨0,[],0,0,5⟩ else zz W (meant++[(Ym (x::r)).1.toUInt8]) (at0+(Ym (x::r)).2) ((x::r).drop (Ym (x::r)).2)):=show _=_ by
    rw [af.out,A,hn];rfl
   have ar:=fun wx=>yR wx l at0 (by omega)
   rw [A] at ar;have ai:(x::r).length=l.length-at0:=by rw [←A,List.length_drop]
   have al:Hid (l.drop at0=x::r):=A;clear ab hn A
   by_cases h34:n=34
   ·have L:Hid (zQ l=⟨3,meant,0,at0+1,0⟩):=show _=_ by rw [Y.out,if_pos h34]
    subst h34;obtain ⟨o,D,rfl,J,-,-,-⟩:=yd HO.out;have ay:=XC wr o meant D J;clear J;go_wp2
    refine bodyPost_ret (v:=ZD ⟨3,meant,0,at0+1,0⟩) (by simp [results,Tryz.results163,go_sem,ZD,z]) rfl ⟨by rw [L.out],?_⟩
    exact zI HB.out _ _ _ _ _
   ·have au:((n:Int)==34)=false:=by rw [beq_eq_false_iff_ne];omega
    have G:=Qy (x::r);have cb:=VH x r wr (by simp at ai;omega) (HT.out.below HB.out (Nat.le_refl _))
    obtain ⟨c,sz,U⟩:∃c sz,Ym (x::r)=(c,sz):=⟨_,_,rfl⟩;rw [U] at cb G;simp only at G
    have T:Hid (zQ l=if sz=0 then ⟨0,[],0,0,6⟩ else if meant.length=255 then ⟨0,[],0,0,5⟩ else zz W (meant++[c.toUInt8]) (at0+sz) ((x::r).drop sz)):=show _=_ by
     rw [Y.out,if_neg h34,U]
    clear U h34;go_wp2_with fail
    refine cb.mono ?_;clear cb z Z;rintro e w2 ⟨rfl,M⟩;have av:=M.size;have K:Below (w.heap.size+1) (w.alloc Zi) w2:=ah.out.trans (M.mono Q);obtain ⟨z,Z⟩:=ZZ K;have ap:Hid (Below (w.heap.size+1) (w.alloc Zi) w2):=K;have aa:Hid (Below w.heap.size w w2):=HA.out.trans (K.mono (by omega))
    have V:Hid (w2.ownsRow (w.heap.size+1) 5 1 u5 meant.length (Lib.byteCells meant)):=qA HO.out M (Nat.le_refl _);clear M K HO ah
    by_cases hs0:sz=0
    ·have L:Hid (zQ l=⟨0,[],0,0,6⟩):=show _=_ by rw [T.out,if_pos hs0]
     subst hs0;go_wp2
     refine bodyPost_ret (v:=ZD ⟨0,[],0,0,6⟩) (by simp [results,Tryz.results163,go_sem,ZD,z]) rfl ⟨by rw [L.out],?_⟩
     exact zI aa.out _ _ _ _ _
    ·have aw:((sz:Int)==0)=false:=by rw [beq_eq_false_iff_ne];omega
     obtain ⟨o,D,rfl,-,-,-,-⟩:=yd V.out;obtain ⟨X,y⟩:∃X,X=meant.length:=⟨_,rfl⟩;have ag:Hid (X=meant.length):=y;rw [←y]
     by_cases h255:X=255
     ·have L:Hid (zQ l=⟨0,[],0,0,5⟩):=show _=_ by rw [T.out,if_neg hs0,if_pos (by rw [←y];exact h255)]
      clear y;subst h255;go_wp2
      refine bodyPost_ret (v:=ZD ⟨0,[],0,0,5⟩) (by simp [results,Tryz.results163,go_sem,ZD,z]) rfl ⟨by rw [L.out],?_⟩
      exact zI aa.out _ _ _ _ _
     ·have am:((X:Int)==255)=false:=by rw [beq_eq_false_iff_ne];omega
      have L:Hid (zQ l=zz W (meant++[c.toUInt8]) (at0+sz) (l.drop (at0+sz))):=show _=_ by
       rw [T.out,if_neg hs0,if_neg (by rw [←y];exact h255),←al.out,List.drop_drop]
      have ae:Hid (w2.ownsRow (w.heap.size+1) 5 1 (.slice o X D) meant.length (Lib.byteCells meant)):=by rw [y];exact V.out
      have R:=G.2;have ad:=G.1;rw [ai] at ad;have ax:meant.length≤255:=aq;clear y V G
      go_wp2_with (at_builtin;refine Zp rfl _ _ rfl (w.heap.size+1) _ meant rfl (ae.out.alloc _) _ [c.toUInt8] rfl (Zr R (by simp)) (by simp;omega) (by simp;omega) ?_)
      intro v3 w3 I E;have ao:Hid (Below (w.heap.size+1) (w.alloc Zi) w3):=(ap.out.alloc (by omega) _).grown E (by simp;omega) (fun q hq=>(ae.out.lt q hq).1)
      have an:Hid (w3.ownsRow (w.heap.size+1) 5 1 v3 (meant++[c.toUInt8]).length (Lib.byteCells (meant++[c.toUInt8]))):=by
       rw [show (meant++[c.toUInt8]).length=meant.length+1 by simp];exact I
      clear E I;go_wp2
      refine ⟨⟨W,at0+sz,meant++[c.toUInt8],by go_num,by omega,by omega,?_,L.out,an.out,ao.out⟩,by simp [intOf];omega⟩
      rw [List.length_append,List.length_singleton,←ag.out]
      have:=ag.out
      omega
  ·obtain rfl:at0=l.length:=by omega
   have L:Hid (zQ l=⟨0,[],0,0,6⟩):=show _=_ by
    rw [af.out,List.drop_length];cases f <;> rfl
   go_wp2
   refine bodyPost_ret (v:=ZD ⟨0,[],0,0,6⟩) (by simp [results,Tryz.results163,go_sem,ZD,z]) rfl ⟨by rw [L.out],?_⟩
   exact zI HB.out _ _ _ _ _
def zF (l:List UInt8):TR :=
 match l with
 | []=>⟨0,[],0,0,0⟩
 | x::_=>if zM x.toNat=true then Zo l else if zE x.toNat=true then ym l else if x.toNat=34 then zQ l else ZQ l
theorem zan {x:UInt8} {r:List UInt8} (h:zE x.toNat=true):digL (x::r)≠[]:=by
 unfold digL;simp [h]
theorem qB (l:List UInt8) (w:World) (hl:l.length≤140737488351232) (ht:Z4 w) :
  Calls Tryz.prog 141 #[.string (za l)] w fun e w'=>e=.returned (ZD (zF l))∧Below w.heap.size w w':=by
 have U:Below w.heap.size w (w.alloc Zi):=(Below.refl w.heap.size w).alloc (Nat.le_refl _) _;have O:Hid (Below w.heap.size w (w.alloc Zi)):=U;have Q:Hid (Z4 (w.alloc Zi)):=ht.alloc _;clear ht U;cases l with
 | nil =>
  go_enter Tryz.func141,Tryz.ntmps141
  go_wp2
  refine bodyPost_ret (v:=ZD ⟨0,[],0,0,0⟩) (by simp [results,Tryz.results141,go_sem,ZD]) rfl ⟨rfl,?_⟩
  exact O.out
 | cons x r =>
  have J:=fun wx=>ZT wx (x::r) 0 (by simp)
  rw [show ((0:Nat):Int)=0 from rfl,show (x::r)[0]=x from rfl] at J
  obtain ⟨n,N⟩:∃n,n=x.toNat:=⟨_,rfl⟩;rw [←N] at J;have G:n<256:=by rw [N];exact UInt8.toNat_lt x
  have I:Hid (zF (x::r)=if zM n=true then Zo (x::r) else if zE n=true then ym (x::r) else if n=34 then zQ (x::r) else ZQ (x::r)):=show _=_ by rw [N];rfl
  have Y:Hid (zE n=true→digL (x::r)≠[]):=fun h=>zan (by rw [←N];exact h)
  have Z:¬ (x::r)=[]:=by simp
  clear N
  go_enter Tryz.func141,Tryz.ntmps141
  have X:(x::r).length≤140737488351232:=hl;have H:Hid (∀(R:TR) (A:World),Below (w.alloc Zi).heap.size (w.alloc Zi) A→Below (w.heap.size+1) (w.alloc Zi) A):=fun R A h=>by rw [World.size_alloc] at h;exact h
  have W:=yS n G (w.alloc Zi);go_wp2_with fail
  refine W.mono ?_;clear W;rintro e A ⟨rfl,rfl⟩;cases h1:zM n with
  | true =>
   obtain ⟨R,D⟩:∃R,R=Zo (x::r):=⟨_,rfl⟩;have z:=vF (x::r) (w.alloc Zi) (by omega) Q.out
   rw [←D] at z;have K:Hid (zF (x::r)=R):=show _=_ by rw [I.out,if_pos h1,D]
   unfold ZD at z
   clear D;go_wp2_with fail
   refine z.mono ?_;clear z;rintro e A ⟨rfl,y⟩;have o:=H.out R A y;obtain ⟨E,M⟩:=ZZ o;have L:Hid (Below w.heap.size w A):=O.out.trans (o.mono (by omega))
   clear y o;go_wp2
   refine bodyPost_ret (v:=ZD R) (by simp [results,Tryz.results141,go_sem,ZD,E]) rfl ⟨by rw [K.out],?_⟩
   exact zI L.out _ _ _ _ _
  | false =>
   have V:=YU n G (w.alloc Zi);go_wp2_with fail
   refine V.mono ?_;clear V;rintro e A ⟨rfl,rfl⟩;cases h2:zE n with
   | true =>
    obtain ⟨R,D⟩:∃R,R=ym (x::r):=⟨_,rfl⟩;have z:=Xr (x::r) (w.alloc Zi) (by omega) (Y.out h2) Q.out
    rw [←D] at z;have K:Hid (zF (x::r)=R):=show _=_ by rw [I.out,if_neg (by rw [h1];simp),if_pos h2,D]
    unfold ZD at z
    clear D;go_wp2_with fail
    refine z.mono ?_;clear z;rintro e A ⟨rfl,y⟩;have o:=H.out R A y;obtain ⟨E,M⟩:=ZZ o;have L:Hid (Below w.heap.size w A):=O.out.trans (o.mono (by omega))
    clear y o;go_wp2
    refine bodyPost_ret (v:=ZD R) (by simp [results,Tryz.results141,go_sem,ZD,E]) rfl ⟨by rw [K.out],?_⟩
    exact zI L.out _ _ _ _ _
   | false =>
    by_cases h34:n=34
    ·obtain ⟨R,D⟩:∃R,R=zQ (x::r):=⟨_,rfl⟩
     have z:=vH (x::r) (w.alloc Zi) (by omega) (by simp) Q.out
     rw [←D] at z;have K:Hid (zF (x::r)=R):=show _=_ by rw [I.out,if_neg (by rw [h1];simp),if_neg (by rw [h2];simp),if_pos h34,D]
     subst h34
     unfold ZD at z
     clear D;go_wp2_with fail
     refine z.mono ?_;clear z;rintro e A ⟨rfl,y⟩;have o:=H.out R A y;obtain ⟨E,M⟩:=ZZ o;have L:Hid (Below w.heap.size w A):=O.out.trans (o.mono (by omega))
     clear y o;go_wp2
     refine bodyPost_ret (v:=ZD R) (by simp [results,Tryz.results141,go_sem,ZD,E]) rfl ⟨by rw [K.out],?_⟩
     exact zI L.out _ _ _ _ _
    ·obtain ⟨R,D⟩:∃R,R=ZQ (x::r):=⟨_,rfl⟩
     have T:((n:Int)==34)=false:=by rw [beq_eq_false_iff_ne];omega
     have z:=vG (x::r) (w.alloc Zi) Q.out;rw [←D] at z;have K:Hid (zF (x::r)=R):=show _=_ by rw [I.out,if_neg (by rw [h1];simp),if_neg (by rw [h2];simp),if_neg h34,D]
     unfold ZD at z
     clear D;go_wp2_with fail
     refine z.mono ?_;clear z;rintro e A ⟨rfl,y⟩;have o:=H.out R A y;obtain ⟨E,M⟩:=ZZ o;have L:Hid (Below w.heap.size w A):=O.out.trans (o.mono (by omega))
     clear y o;go_wp2
     refine bodyPost_ret (v:=ZD R) (by simp [results,Tryz.results141,go_sem,ZD,E]) rfl ⟨by rw [K.out],?_⟩
     exact zI L.out _ _ _ _ _
end Go.Proofs.YtmbofhpmockmbaaGreatDoor

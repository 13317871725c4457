import Derived.Test.YtmbofhpmockmbaaGreatDoorXGap
import Derived.Test.YtmbofhpmockmbaaGreatDoorWAll
import Derived.Deep.MidRow
import Derived.LoopN
namespace Go.Proofs.YtmbofhpmockmbaaGreatDoor
open Go.RowKit
set_option maxHeartbeats 16000000
set_option maxRecDepth 100000
structure TR where
 k:Nat
 s:List UInt8
 n:Nat
 sz:Nat
 e:Nat
def zW (r:TR):Value:=.tuple #[.agg #[.int .i64 r.k,.string (za r.s),.int .i64 r.n,.int .i64 0,.int .i64 0],.int .i64 r.sz,.int .i64 r.e]
def ZS (l:List UInt8):List UInt8:=l.takeWhile fun c=>YE c.toNat
def ye (l:List UInt8):TR:=if Z8 (ZS l)=true then ⟨5,ZS l,0,(ZS l).length,0⟩ else if 20<(ZS l).length then ⟨0,[],0,0,5⟩ else ⟨1,ZS l,0,(ZS l).length,0⟩
theorem Xv (p:UInt8→Bool) (l:List UInt8):l.take (l.takeWhile p).length=l.takeWhile p:=by
 induction l with
 | nil=>rfl
 | cons x l ih =>
  by_cases h:p x=true
  ·simp [h,ih]
  ·simp [h]
theorem YH (l:List UInt8):(ZS l).length≤l.length:=(List.takeWhile_sublist _).length_le
theorem Zp.alloc {w:World} (h:Zp w) (o:Obj):Zp (w.alloc o) :=
 ⟨fun j hj=>Lib.cell?_alloc_some o (h.words j hj),fun j hj=>Lib.cell?_alloc_some o (h.signs j hj),fun j hj=>Lib.cell?_alloc_some o (h.escs j hj),by obtain ⟨a,b,c⟩:=h.range;exact ⟨a,b,Lib.cell?_alloc_some o c⟩⟩
theorem Zp.below {w w':World} {B:Nat} (h:Zp w) (hb:Below B w w') (hB:w.heap.size≤B):Zp w':=by
 have o:∀{p:Addr} {v:Value},w.cell? p=some v→w'.cell? p=some v:=fun {p v} hp=>by
  rw [hb.cell (Nat.lt_of_lt_of_le (World.block_lt_of_cell? w _ hp) hB)];exact hp
 exact ⟨fun j hj=>o (h.words j hj),fun j hj=>o (h.signs j hj),fun j hj=>o (h.escs j hj),by obtain ⟨a,b,c⟩:=h.range;exact ⟨a,b,o c⟩⟩
theorem Y8 (l:List UInt8) (w:World) (hl:l.length≤9223372036854775000) (ht:Zp w) :
  Calls Tryz.prog 160 #[.string (za l)] w fun e w'=>e=.returned (zW (ye l))∧Below w.heap.size w w':=by
 have I:Hid (Zp w):=ht;have o:=YH l;obtain ⟨m,y⟩:∃m,m=(ZS l).length:=⟨_,rfl⟩;rw [←y] at o;have z:=fun wx=>XZ wx l m o
 rw [show l.take m=ZS l by rw [y];exact Xv _ l] at z
 have D:Hid (m=(ZS l).length):=y;clear ht
 have J:Hid (∀wx,Calls Tryz.prog 152 #[.string (za l),.func (.func 173) #[] #[]] wx fun e w'=>e=.returned (.int .i64 m)∧wx=w'):=fun wx=>by
  rw [y];exact V0 l wx hl
 have H:Hid (∀wx,Zp wx→Calls Tryz.prog 174 #[.string (za (ZS l))] wx fun e w'=>e=.returned (.bool (Z8 (ZS l)))∧wx=w'):=fun wx h=>V2 _ wx h
 clear y;have L:=(Below.refl w.heap.size w).alloc (Nat.le_refl _);obtain ⟨x,E⟩:∃x,x=ZS l:=⟨_,rfl⟩;rw [←E] at z H D;have G:Hid (x=ZS l):=E;clear E
 go_enter Tryz.func160,Tryz.ntmps160
 go_wp2_with fail
 refine (J.out _).mono ?_;rintro e K ⟨rfl,rfl⟩;go_wp2_with fail
 refine (H.out _ (I.out.alloc _)).mono ?_;rintro e K ⟨rfl,rfl⟩;cases hq:Z8 x with
 | true =>
  have A:Hid (ye l=⟨5,x,0,m,0⟩):=by unfold ye;rw [←G.out,if_pos hq,←D.out];rfl
  go_wp2
  refine bodyPost_ret (v:=zW ⟨5,x,0,m,0⟩) (by simp [results,Tryz.results160,go_sem,zW]) rfl ⟨by rw [A.out],?_⟩
  exact (Below.refl w.heap.size w).alloc (Nat.le_refl _) _
 | false =>
  by_cases h20:20<m
  ·have A:Hid (ye l=⟨0,[],0,0,5⟩):=by unfold ye;rw [←G.out,if_neg (by rw [hq];simp),if_pos (by rw [←D.out];exact h20)];rfl
   go_wp2
   refine bodyPost_ret (v:=zW ⟨0,[],0,0,5⟩) (by simp [results,Tryz.results160,go_sem,zW]) rfl ⟨by rw [A.out],?_⟩
   exact (Below.refl w.heap.size w).alloc (Nat.le_refl _) _
  ·have A:Hid (ye l=⟨1,x,0,m,0⟩):=by unfold ye;rw [←G.out,if_neg (by rw [hq];simp),if_neg (by rw [←D.out];exact h20),←D.out];rfl
   go_wp2
   refine bodyPost_ret (v:=zW ⟨1,x,0,m,0⟩) (by simp [results,Tryz.results160,go_sem,zW]) rfl ⟨by rw [A.out],?_⟩
   exact (Below.refl w.heap.size w).alloc (Nat.le_refl _) _
def valA (acc:Nat):List UInt8→Nat
 | []=>acc
 | c::r=>valA (acc*10+(c.toNat-48)) r
theorem vD:∀(r:List UInt8) (acc:Nat),acc≤valA acc r
 | [],_=>Nat.le_refl _
 | c::r,acc=>Nat.le_trans (by omega) (vD r (acc*10+(c.toNat-48)))
theorem xS (ds:List UInt8):∀(o:Nat),(∀c∈ds,Zd c.toNat=true)→o<18446744073709551616 →
  Lib.parseUint10 o ds=if valA o ds<18446744073709551616 then .ok (valA o ds) else .range:=by
 induction ds with
 | nil =>
  intro o _ z;rw [show valA o []=o from rfl,if_pos z]
  rfl
 | cons c r ih =>
  intro o h z;have y:=h c (List.mem_cons_self ..)
  unfold Zd at y
  rw [Bool.and_eq_true,decide_eq_true_eq,decide_eq_true_eq] at y;have A:=vD r (o*10+(c.toNat-48));rw [show valA o (c::r)=valA (o*10+(c.toNat-48)) r from rfl]
  unfold Lib.parseUint10
  rw [if_pos y]
  by_cases h1:1844674407370955162≤o
  ·rw [if_pos h1,if_neg (by omega)]
  ·rw [if_neg h1]
   by_cases h2:18446744073709551616≤o*10+(c.toNat-48)
   ·rw [if_pos h2,if_neg (by omega)]
   ·rw [if_neg h2]
    exact ih _ (fun d hd=>h d (List.mem_cons_of_mem _ hd)) (by omega)
theorem Xw {ds:List UInt8} (h:∀c∈ds,Zd c.toNat=true) (hne:ds≠[]) :
  Lib.atoiAll ds=if valA 0 ds<9223372036854775808 then .ok (valA 0 ds:Int) else .range:=by
 cases ds with
 | nil=>exact absurd rfl hne
 | cons c r =>
  have z:=h c (List.mem_cons_self ..)
  unfold Zd at z
  rw [Bool.and_eq_true,decide_eq_true_eq,decide_eq_true_eq] at z;have D:¬ (c.toNat=43∨c.toNat=45):=by omega
  have y:¬ c.toNat=45:=by omega
  have o:Lib.parseMag (c::r)=if valA 0 (c::r)<18446744073709551616 then .ok (valA 0 (c::r)) else .range:=by
   unfold Lib.parseMag;rw [if_neg (by simp)];exact xS _ 0 h (by omega)
  generalize valA 0 (c::r)=v at o ⊢;have A:(if c.toNat=43∨c.toNat=45 then r else c::r)=c::r:=if_neg D
  unfold Lib.atoiAll
  simp only [A];rw [o]
  by_cases h3:v<18446744073709551616
  ·rw [if_pos h3]
   by_cases h4:v<9223372036854775808
   ·simp only
    rw [if_neg (by omega),if_neg (by omega),if_neg y,if_pos h4]
   ·simp only
    rw [if_pos ⟨y,by omega⟩,if_neg h4]
  ·rw [if_neg h3,if_neg (by omega)]
theorem vE {p:UInt8→Bool}:∀(l:List UInt8) (c:UInt8),c∈l.takeWhile p→p c=true
 | [],c,h=>by simp at h
 | x::l,c,h=>by
  by_cases hx:p x=true
  ·rw [List.takeWhile_cons_of_pos hx] at h
   rcases List.mem_cons.1 h with rfl | h
   ·exact hx
   ·exact vE l c h
  ·rw [List.takeWhile_cons_of_neg hx] at h
   simp at h
def digL (l:List UInt8):List UInt8:=l.takeWhile fun c=>Zd c.toNat
def YI (l:List UInt8):TR:=if valA 0 (digL l)<9223372036854775808 then ⟨2,[],valA 0 (digL l),(digL l).length,0⟩ else ⟨0,[],0,0,5⟩
theorem vF (l:List UInt8):(digL l).length≤l.length:=(List.takeWhile_sublist _).length_le
theorem V8 (l:List UInt8):∀c∈digL l,Zd c.toNat=true:=fun c hc=>vE (p:=fun c=>Zd c.toNat) l c hc
theorem Yn (l:List UInt8) (w:World) (hl:l.length≤140737488351232) (hne:digL l≠[]) (ht:Zp w) :
  Calls Tryz.prog 162 #[.string (za l)] w fun e w'=>e=.returned (zW (YI l))∧Below w.heap.size w w':=by
 have Y:Hid (Zp w):=ht;have D:=vF l;obtain ⟨m,G⟩:∃m,m=(digL l).length:=⟨_,rfl⟩;rw [←G] at D;have H:=fun wx=>XZ wx l m D
 rw [show l.take m=digL l by rw [G];exact Xv _ l] at H
 have M:Hid (m=(digL l).length):=G;have T:m≤140737488351232:=by omega
 clear ht
 have Z:Hid (∀wx,Calls Tryz.prog 152 #[.string (za l),.func (.func 161) #[] #[]] wx fun e w'=>e=.returned (.int .i64 m)∧wx=w'):=fun wx=>by
  rw [G];exact Ve l wx (by omega)
 have z:=Xw (V8 l) hne;obtain ⟨x,Q⟩:∃x,x=digL l:=⟨_,rfl⟩;rw [←Q] at H M z;obtain ⟨v,S⟩:∃v,v=valA 0 x:=⟨_,rfl⟩;rw [←S] at z;have W:Hid (x=digL l):=Q;have X:Hid (v=valA 0 x):=S;have J:Hid (Lib.atoiAll x=if v<9223372036854775808 then .ok (v:Int) else .range):=z
 clear Q S z G
 go_enter Tryz.func162,Tryz.ntmps162
 go_wp2_with fail
 refine (Z.out _).mono ?_;rintro e w1 ⟨rfl,rfl⟩
 by_cases h63:v<9223372036854775808
 ·have I:=fun wx=>Tryz.strconv_Atoi_ok (za x) (by rw [zP,←M.out];omega) v (by show Lib.atoiAll x=_;rw [J.out,if_pos h63]) wx
  have R:Hid (YI l=⟨2,[],v,m,0⟩):=by unfold YI;rw [←W.out,←X.out,if_pos h63,←M.out];rfl
  go_wp2_with fail
  refine (I _).mono ?_;clear I;rintro e w1 ⟨rfl,E⟩
  have y:Below (w.heap.size+1) (w.alloc (Obj.cells #[Value.int IntKind.i64 0,Value.string ⟨#[]⟩,Value.int IntKind.i64 0,Value.int IntKind.i64 0,Value.int IntKind.i64 0] 142)) w1:=by
   rcases E with rfl | ⟨t,rfl⟩
   ·exact Below.refl _ _
   ·have L:=Lib.bytesWorld_below (w.alloc (Obj.cells #[Value.int IntKind.i64 0,Value.string ⟨#[]⟩,Value.int IntKind.i64 0,Value.int IntKind.i64 0,Value.int IntKind.i64 0] 142)) 5 t
    rw [World.size_alloc] at L;exact L
  clear E
  obtain ⟨A,N⟩:(∀o,w1.cell? ⟨w.heap.size,o,none⟩=(w.alloc (Obj.cells #[Value.int IntKind.i64 0,Value.string ⟨#[]⟩,Value.int IntKind.i64 0,Value.int IntKind.i64 0,Value.int IntKind.i64 0] 142)).cell? ⟨w.heap.size,o,none⟩)∧(∀o,w1.frozen? ⟨w.heap.size,o,none⟩=(w.alloc (Obj.cells #[Value.int IntKind.i64 0,Value.string ⟨#[]⟩,Value.int IntKind.i64 0,Value.int IntKind.i64 0,Value.int IntKind.i64 0] 142)).frozen? ⟨w.heap.size,o,none⟩) :=
   ⟨fun o=>y.cell (p:=⟨w.heap.size,o,none⟩) (by simp),fun o=>y.frozen (p:=⟨w.heap.size,o,none⟩) (by simp)⟩
  have O:Hid (Below w.heap.size w w1):=((Below.refl w.heap.size w).alloc (Nat.le_refl _) _).trans (y.mono (by omega))
  clear y;go_wp2
  refine bodyPost_ret (v:=zW ⟨2,[],v,m,0⟩) (by simp [results,Tryz.results162,go_sem,zW,A]) rfl ⟨by rw [R.out],?_⟩
  exact ((((O.out.setCell (p:=⟨w.heap.size,0,none⟩) (Nat.le_refl _) _).setCell (p:=⟨w.heap.size,1,none⟩) (Nat.le_refl _) _).setCell (p:=⟨w.heap.size,2,none⟩) (Nat.le_refl _) _).setCell (p:=⟨w.heap.size,3,none⟩) (Nat.le_refl _) _).setCell (p:=⟨w.heap.size,4,none⟩) (Nat.le_refl _) _
 ·obtain ⟨V,U,K⟩:=Y.out.range
  have I:=Tryz.strconv_Atoi_range (za x) (by rw [zP,←M.out];omega) (by show Lib.atoiAll x=_;rw [J.out,if_neg h63]) (.iface V U) (w.alloc (Obj.cells #[Value.int IntKind.i64 0,Value.string ⟨#[]⟩,Value.int IntKind.i64 0,Value.int IntKind.i64 0,Value.int IntKind.i64 0] 142)) (Lib.cell?_alloc_some _ K) (.inr ⟨V,U,rfl⟩)
  have R:Hid (YI l=⟨0,[],0,0,5⟩):=by unfold YI;rw [←W.out,←X.out,if_neg h63];rfl
  go_wp2_with fail
  refine I.mono ?_;clear I;rintro e w1 ⟨NN,rfl,-,-,y⟩;rw [World.size_alloc] at y
  obtain ⟨A,N⟩:(∀o,w1.cell? ⟨w.heap.size,o,none⟩=(w.alloc (Obj.cells #[Value.int IntKind.i64 0,Value.string ⟨#[]⟩,Value.int IntKind.i64 0,Value.int IntKind.i64 0,Value.int IntKind.i64 0] 142)).cell? ⟨w.heap.size,o,none⟩)∧(∀o,w1.frozen? ⟨w.heap.size,o,none⟩=(w.alloc (Obj.cells #[Value.int IntKind.i64 0,Value.string ⟨#[]⟩,Value.int IntKind.i64 0,Value.int IntKind.i64 0,Value.int IntKind.i64 0] 142)).frozen? ⟨w.heap.size,o,none⟩) :=
   ⟨fun o=>y.cell (p:=⟨w.heap.size,o,none⟩) (by simp),fun o=>y.frozen (p:=⟨w.heap.size,o,none⟩) (by simp)⟩
  have O:Hid (Below w.heap.size w w1):=((Below.refl w.heap.size w).alloc (Nat.le_refl _) _).trans (y.mono (by omega))
  clear y K;go_wp2
  refine bodyPost_ret (v:=zW ⟨0,[],0,0,5⟩) (by simp [results,Tryz.results162,go_sem,zW,A]) rfl ⟨by rw [R.out],?_⟩
  exact ((((O.out.setCell (p:=⟨w.heap.size,0,none⟩) (Nat.le_refl _) _).setCell (p:=⟨w.heap.size,1,none⟩) (Nat.le_refl _) _).setCell (p:=⟨w.heap.size,2,none⟩) (Nat.le_refl _) _).setCell (p:=⟨w.heap.size,3,none⟩) (Nat.le_refl _) _).setCell (p:=⟨w.heap.size,4,none⟩) (Nat.le_refl _) _
def longer (l best x:List UInt8):List UInt8:=if best.length<x.length∧Lib.hasPrefix l x=true then x else best
def bestS (l:List UInt8) (n:Nat):List UInt8:=(signsL.take n).foldl (longer l) []
def yE (l:List UInt8):TR:=if bestS l 25=[] then ⟨0,[],0,0,6⟩ else ⟨4,bestS l 25,0,(bestS l 25).length,0⟩
theorem X1 (l:List UInt8) (n:Nat) (h:n<signsL.length):bestS l (n+1)=longer l (bestS l n) signsL[n]:=by
 unfold bestS;rw [List.take_succ_eq_append_getElem h,List.foldl_append];rfl
theorem xu (l:List UInt8) (n:Nat):(bestS l n).length≤2:=by
 have D:∀(o:List (List UInt8)) (b:List UInt8),(∀x∈o,x.length≤2)→b.length≤2→(o.foldl (longer l) b).length≤2:=by
  intro o
  induction o with
  | nil=>intro b _ A;exact A
  | cons x o ih =>
   intro b z A;refine ih _ (fun y hy=>z y (List.mem_cons_of_mem _ hy)) ?_
   unfold longer
   split
   ·exact z x (List.mem_cons_self ..)
   ·exact A
 exact D _ _ (fun x z=>by
  have:∀x∈signsL,x.length≤2:=by decide
  exact this x (List.mem_of_mem_take z)) (by simp)
def y3:List Value:=signsL.map fun x=>.string (za x)
def signsV:Value:=.agg y3.toArray
theorem Xx {w:World} (ht:Zp w):w.rangeAt 8 0 y3:=fun j v hv=>by
 unfold y3 at hv
 rw [List.getElem?_map] at hv;rcases Nat.lt_or_ge j signsL.length with h | h
 ·rw [List.getElem?_eq_getElem h] at hv
  simp only [Option.map_some,Option.some.injEq] at hv;rw [Nat.zero_add,ht.signs j h,hv]
 ·rw [List.getElem?_eq_none h] at hv;cases hv
theorem X2:(Tryz.prog.info? 225).map (·.size)=some y3.length:=by kernel_rfl
theorem Y9 (l:List UInt8) (w:World) (ht:Zp w) :
  Calls Tryz.prog 164 #[.string (za l)] w fun e w'=>e=.returned (zW (yE l))∧Below w.heap.size w w':=by
 have N:Hid (Zp w):=ht;clear ht
 go_enter Tryz.func164,Tryz.ntmps164
 go_wp2_with (refine wpList_load_mid rfl 225 _ rfl 8 0 rfl y3 _ (Xx (N.out.alloc _)) Tryz.underlying225 rfl X2 ?_)
 have Q:Hid (∀(wx:World) (i:Nat) (h:i<25),(Instr.index 225 signsV (.int .i64 (i:Int))).run Tryz.prog wx=.ok (.string (za (signsL[i]'h))) wx):=fun wx i h=>Vh wx i h
 rw [show Value.agg y3.toArray=signsV from rfl]
 generalize signsV=A at *
 go_loop [5,9] (fun vb v=>∃i:Nat,i≤25∧v=.int .i64 i∧vb=.string (za (bestS l i))) (fun _ v=>25-(intOf v).toNat)
 case atStart=>exact ⟨0,Nat.zero_le _,rfl,rfl⟩
 case round =>
  obtain ⟨i,T,rfl,rfl⟩:=hrel;have J:=xu l i;obtain ⟨b,I⟩:∃b,b=bestS l i:=⟨_,rfl⟩;rw [←I] at J ⊢;have H:Hid (b=bestS l i):=I;clear I
  by_cases hlt:i<25
  ·have z:=fun wx=>Q.out wx i hlt
   obtain ⟨x,E⟩:∃x,x=signsL[i]'hlt:=⟨_,rfl⟩;rw [←E] at z
   have O:x.length≤2:=by
    have:∀x∈signsL,x.length≤2:=by decide
    rw [E];exact this _ (List.getElem_mem _)
   have L:Hid (bestS l (i+1)=longer l b x):=show bestS l (i+1)=longer l b x by rw [X1 l i hlt,H.out,E]
   have S:(za x).size=x.length:=rfl;have K:(za b).size=b.length:=rfl;clear E
   by_cases hlen:b.length<x.length
   ·have G:=fun wx=>Tryz.strings_HasPrefix (za l) (za x) wx
    cases hp:Lib.hasPrefix l x with
    | true =>
     have D:Lib.hasPrefix (za l).data.toList (za x).data.toList=true:=hp;rw [D] at G;have o:Hid (bestS l (i+1)=x):=show bestS l (i+1)=x by rw [L.out];unfold longer;rw [if_pos ⟨hlen,hp⟩]
     clear D;go_wp2_with (go_at_call 154;refine (G _).mono ?_;rintro e R ⟨rfl,rfl⟩)
     refine ⟨⟨i+1,by omega,by go_num,by rw [o.out]⟩,by simp [intOf];omega⟩
    | false =>
     have D:Lib.hasPrefix (za l).data.toList (za x).data.toList=false:=hp;rw [D] at G;have o:Hid (bestS l (i+1)=b):=show bestS l (i+1)=b by rw [L.out];unfold longer;rw [if_neg (fun h=>by rw [hp] at h;exact absurd h.2 (by decide))]
     clear D;go_wp2_with (go_at_call 154;refine (G _).mono ?_;rintro e R ⟨rfl,rfl⟩)
     refine ⟨⟨i+1,by omega,by go_num,by rw [o.out]⟩,by simp [intOf];omega⟩
   ·have o:Hid (bestS l (i+1)=b):=show bestS l (i+1)=b by rw [L.out];unfold longer;rw [if_neg (fun h=>hlen h.1)]
    go_wp2
    refine ⟨⟨i+1,by omega,by go_num,by rw [o.out]⟩,by simp [intOf];omega⟩
  ·obtain rfl:i=25:=by omega
   have K:(za b).size=b.length:=rfl;cases b with
   | nil =>
    have M:Hid (yE l=⟨0,[],0,0,6⟩):=by unfold yE;rw [←H.out,if_pos rfl];rfl
    go_wp2
    refine bodyPost_ret (v:=zW ⟨0,[],0,0,6⟩) (by simp [results,Tryz.results164,go_sem,zW]) rfl ⟨by rw [M.out],?_⟩
    exact (Below.refl w.heap.size w).alloc (Nat.le_refl _) _
   | cons y ys =>
    have M:Hid (yE l=⟨4,y::ys,0,(y::ys).length,0⟩):=by unfold yE;rw [←H.out,if_neg (by simp)];rfl
    go_wp2
    refine bodyPost_ret (v:=zW ⟨4,y::ys,0,(y::ys).length,0⟩) (by simp [results,Tryz.results164,go_sem,zW]) rfl ⟨by rw [M.out],?_⟩
    exact (Below.refl w.heap.size w).alloc (Nat.le_refl _) _
def Yo:List UInt8→Nat × Nat
 | []=>(0,0)
 | x::r=>if x.toNat<32∨126<x.toNat then (0,0) else if x.toNat≠92 then (x.toNat,1) else
  match r with
  | []=>(0,0)
  | y::_=>if y.toNat=92 then (92,2) else if y.toNat=34 then (34,2) else if y.toNat=110 then (10,2) else (0,0)
theorem xT (w:World) (l:List UInt8) (i:Nat) (h:i<l.length):(Instr.index 9 (.string (za l)) (.int .i64 (i:Int))).run Tryz.prog w=.ok (.int .u8 ((l[i]).toNat:Int)) w:=by
 rw [run_index_string (P:=Tryz.prog) (w:=w) 9 (za l) .i64 _ Tryz.underlying9,dif_pos ⟨by omega,by rw [zP];omega⟩]
 simp only [Int.toNat_natCast]
 rfl
theorem xw {a:Nat × Nat} {c k:Nat} (h:a=(c,k)):(Ending.returned (.tuple #[.int .u8 (c:Int),.int .i64 (k:Int)]):Ending)=.returned (.tuple #[.int .u8 (a.1:Int),.int .i64 (a.2:Int)]):=by rw [h]
theorem vG {x:UInt8} {r:List UInt8} (h:x.toNat<32∨126<x.toNat):Yo (x::r)=(0,0):=by
 show (if _ then _ else _)=_;rw [if_pos h]
theorem vH {x:UInt8} {r:List UInt8} (h:¬ (x.toNat<32∨126<x.toNat)) (h2:x.toNat≠92):Yo (x::r)=(x.toNat,1):=by
 show (if _ then _ else _)=_;rw [if_neg h,if_pos h2]
theorem vI {x:UInt8} (h:¬ (x.toNat<32∨126<x.toNat)) (h2:x.toNat=92):Yo [x]=(0,0):=by
 show (if _ then _ else _)=_;rw [if_neg h,if_neg (by omega)]
def Ui (m:Nat):Nat × Nat:=if m=92 then (92,2) else if m=34 then (34,2) else if m=110 then (10,2) else (0,0)
theorem vJ {x y:UInt8} {t:List UInt8} (h:¬ (x.toNat<32∨126<x.toNat)) (h2:x.toNat=92):Yo (x::y::t)=Ui y.toNat:=by
 show (if _ then _ else _)=_;rw [if_neg h,if_neg (by omega)];rfl
def xU:List Nat:=[92,34,110]
def u6:List Nat:=[92,34,10]
theorem u7 {m i:Nat} (hi:i<3) (h:∀j (hj:j<3),j<i→(xU[j]'hj)≠m) (he:(xU[i]'hi)=m):Ui m=((u6[i]'hi),2):=by
 have o:i=0∨i=1∨i=2:=by omega
 rcases o with rfl | rfl | rfl
 ·rw [←he];rfl
 ·rw [←he];rfl
 ·rw [←he];rfl
theorem uF {m:Nat} (h:∀j (hj:j<3),(xU[j]'hj)≠m):Ui m=(0,0):=by
 have o:92≠m:=h 0 (by decide)
 have y:34≠m:=h 1 (by decide)
 have z:110≠m:=h 2 (by decide)
 unfold Ui
 rw [if_neg (by omega),if_neg (by omega),if_neg (by omega)]
theorem V9 (w:World) (i:Nat) (h:i<3):(Instr.index 229 (.agg #[.int .u8 92,.int .u8 92,.int .u8 34,.int .u8 34,.int .u8 10,.int .u8 110]) (.int .i64 (i:Int))).run Tryz.prog w=.ok (.agg #[.int .u8 ((u6[i]'h:Nat):Int),.int .u8 ((xU[i]'h:Nat):Int)]) w:=by
 have o:i=0∨i=1∨i=2:=by omega
 rcases o with rfl | rfl | rfl
 all_goals rfl
theorem xV (x:UInt8) (r:List UInt8) (w:World) (hl:r.length≤9223372036854775000) (ht:Zp w) :
  Calls Tryz.prog 175 #[.string (za (x::r))] w fun e w'=>e=.returned (.tuple #[.int .u8 (Yo (x::r)).1,.int .i64 (Yo (x::r)).2])∧Below w.heap.size w w':=by
 have Q:=fun wx=>xT wx (x::r) 0 (by simp)
 rw [show ((0:Nat):Int)=0 from rfl,show (x::r)[0]=x from rfl] at Q
 have z:(za (x::r)).size=r.length+1:=rfl;obtain ⟨n,o⟩:∃n,n=x.toNat:=⟨_,rfl⟩;have T:n<256:=by rw [o];exact UInt8.toNat_lt x
 rw [←o] at Q;obtain ⟨S,I⟩:∃S,S=za (x::r):=⟨_,rfl⟩;rw [←I] at Q z ⊢;have Y:=ht.escs 0 (by decide)
 have W:=ht.escs 1 (by decide)
 have U:=ht.escs 2 (by decide)
 have e3:=ht.escs 3 (by decide)
 have e4:=ht.escs 4 (by decide)
 have e5:=ht.escs 5 (by decide)
 simp only [List.getElem_cons_zero,List.getElem_cons_succ] at Y W U e3 e4 e5;clear ht
 by_cases hbad:n<32∨126<n
 ·have A:Hid (Yo (x::r)=(0,0)):=vG (by rw [←o];exact hbad)
  clear I o;rcases hbad with H | H
  ·go_enter Tryz.func175,Tryz.ntmps175
   go_wp2
   go_ret2
   exact ⟨xw A.out,Below.refl _ _⟩
  ·go_enter Tryz.func175,Tryz.ntmps175
   go_wp2
   go_ret2
   exact ⟨xw A.out,Below.refl _ _⟩
 ·by_cases h92:n=92
  ·cases r with
   | nil =>
    have A:Hid (Yo [x]=(0,0)):=vI (by rw [←o];exact hbad) (by rw [←o];exact h92)
    have Z:S.size=1:=z;clear I o hbad z;subst h92
    go_enter Tryz.func175,Tryz.ntmps175
    go_wp2
    go_ret2
    exact ⟨xw A.out,Below.refl _ _⟩
   | cons y t =>
    have X:=fun wx=>xT wx (x::y::t) 1 (by simp)
    rw [show ((1:Nat):Int)=1 from rfl,show (x::y::t)[1]=y from rfl] at X
    obtain ⟨m,L⟩:∃m,m=y.toNat:=⟨_,rfl⟩;have N:m<256:=by rw [L];exact UInt8.toNat_lt y
    rw [←L,←I] at X;have K:Hid (Yo (x::y::t)=Ui m):=show _=_ by rw [L];exact vJ (by rw [←o];exact hbad) (by rw [←o];exact h92)
    have aa:S.size=t.length+2:=z;have V:((t.length:Int)+2==1)=false:=by rw [beq_eq_false_iff_ne];omega
    have af:t.length+1≤9223372036854775000:=by simpa using hl
    clear I o hbad z L hl;subst h92
    go_enter Tryz.func175,Tryz.ntmps175
    go_wp2
    clear Y W U e3 e4 e5
    go_loopw [26] (fun v wr=>∃i:Nat,i≤3∧v=.int .i64 i∧(∀j (hj:j<3),j<i→(xU[j]'hj)≠m)∧Below w.heap.size w wr) (fun v _=>3-(intOf v).toNat)
    case atStart=>exact ⟨0,Nat.zero_le _,rfl,fun j _ h=>by omega,Below.refl _ _⟩
    case round =>
     obtain ⟨i,hi,rfl,E,G⟩:=hrel;have R:Hid (∀j (hj:j<3),j<i→(xU[j]'hj)≠m):=E;have O:Hid (Below w.heap.size w wr):=G;have D:=G.size;clear E G
     by_cases hlt:i<3
     ·have J:=fun wx=>V9 wx i hlt
      obtain ⟨a,M⟩:∃a,a=u6[i]'hlt:=⟨_,rfl⟩;obtain ⟨b,H⟩:∃b,b=xU[i]'hlt:=⟨_,rfl⟩;rw [←M,←H] at J
      by_cases he:b=m
      ·have A:Hid (Yo (x::y::t)=(a,2)):=show _=_ by rw [K.out,M];exact u7 hlt R.out (by rw [←H];exact he)
       subst he;clear M H;go_wp2
       go_quiet (fail)
       go_wp2
       go_ret2
       refine ⟨xw A.out,?_⟩;exact (O.out.alloc D _).trans ⟨rfl,rfl,rfl,Nat.le_refl _,fun _ _=>rfl⟩
      ·have ad:((b:Int)==(m:Int))=false:=by rw [beq_eq_false_iff_ne];omega
       have HE:Hid ((xU[i]'hlt)≠m):=show (xU[i]'hlt)≠m by rw [←H];exact he
       clear M H he;go_wp2
       go_quiet (fail)
       go_wp2
       refine ⟨⟨i+1,by omega,by go_num,fun j hj hji=>?_,(O.out.alloc D _).trans ⟨rfl,rfl,rfl,Nat.le_refl _,fun _ _=>rfl⟩⟩,by simp [intOf];omega⟩
       by_cases h:j<i
       ·exact R.out j hj h
       ·obtain rfl:j=i:=by omega
        exact HE.out
     ·obtain rfl:i=3:=by omega
      have A:Hid (Yo (x::y::t)=(0,0)):=show _=_ by rw [K.out];exact uF (fun j hj=>R.out j hj hj)
      go_wp2
      go_ret2
      exact ⟨xw A.out,O.out⟩
  ·have A:Hid (Yo (x::r)=(n,1)):=show Yo (x::r)=(n,1) by rw [o];exact vH (by rw [←o];exact hbad) (by rw [←o];exact h92)
   have ab:32≤n:=by omega
   have ae:n≤126:=by omega
   clear I o hbad
   go_enter Tryz.func175,Tryz.ntmps175
   go_wp2
   go_ret2
   exact ⟨xw A.out,Below.refl _ _⟩
def z7:Nat→List UInt8→Nat→List UInt8→TR
 | 0,_,_,_=>⟨0,[],0,0,6⟩
 | _+1,_,_,[]=>⟨0,[],0,0,6⟩
 | f+1,meant,at0,x::r=>if x.toNat=34 then ⟨3,meant,0,at0+1,0⟩ else if (Yo (x::r)).2=0 then ⟨0,[],0,0,6⟩ else if meant.length=255 then ⟨0,[],0,0,5⟩
  else z7 f (meant++[(Yo (x::r)).1.toUInt8]) (at0+(Yo (x::r)).2) ((x::r).drop (Yo (x::r)).2)
def Z1 (l:List UInt8):TR:=z7 l.length [] 1 (l.drop 1)
theorem ua (l:List UInt8):(Yo l).2≤l.length∧(Yo l).1<256:=by
 cases l with
 | nil=>exact ⟨Nat.le_refl _,by decide⟩
 | cons x r =>
  by_cases h:x.toNat<32∨126<x.toNat
  ·rw [vG h];simp
  ·by_cases h2:x.toNat=92
   ·cases r with
    | nil=>rw [vI h h2];simp
    | cons y t =>
     rw [vJ h h2]
     unfold Ui
     split
     ·simp
     ·split
      ·simp
      ·split <;> simp
   ·rw [vH h h2]
    have:=UInt8.toNat_lt x
    simp;omega
abbrev Z2:Obj:=Obj.cells #[Value.int IntKind.i64 0,Value.string ⟨#[]⟩,Value.int IntKind.i64 0,Value.int IntKind.i64 0,Value.int IntKind.i64 0] 142
theorem yf {w w1:World} (hb:Below (w.heap.size+1) (w.alloc Z2) w1) :
  (∀o,w1.cell? ⟨w.heap.size,o,none⟩=(w.alloc Z2).cell? ⟨w.heap.size,o,none⟩)∧(∀o,w1.frozen? ⟨w.heap.size,o,none⟩=(w.alloc Z2).frozen? ⟨w.heap.size,o,none⟩) :=
 ⟨fun o=>hb.cell (p:=⟨w.heap.size,o,none⟩) (by simp),fun o=>hb.frozen (p:=⟨w.heap.size,o,none⟩) (by simp)⟩
theorem Zh {w w1:World} (h:Below w.heap.size w w1) (a b c d e:Value) :
  Below w.heap.size w (((((w1.setCell ⟨w.heap.size,0,none⟩ a).setCell ⟨w.heap.size,1,none⟩ b).setCell ⟨w.heap.size,2,none⟩ c).setCell ⟨w.heap.size,3,none⟩ d).setCell ⟨w.heap.size,4,none⟩ e) :=
 ((((h.setCell (p:=⟨w.heap.size,0,none⟩) (Nat.le_refl _) _).setCell (p:=⟨w.heap.size,1,none⟩) (Nat.le_refl _) _).setCell (p:=⟨w.heap.size,2,none⟩) (Nat.le_refl _) _).setCell (p:=⟨w.heap.size,3,none⟩) (Nat.le_refl _) _).setCell (p:=⟨w.heap.size,4,none⟩) (Nat.le_refl _) _
theorem Vj {w w':World} {B C e n:Nat} {v:Value} {xs:List Value} (h:w.ownsRow B e 1 v n xs) (hb:Below C w w') (hC:w.heap.size≤C):w'.ownsRow B e 1 v n xs :=
 h.kept (row:=none) ⟨hb.os,hb.tape,hb.output,hb.size,fun k hk _=>hb.block k (by omega)⟩ (by cases h':v.ownBlock <;> simp)
theorem xd (l:List UInt8) (w:World) (hl:l.length≤140737488351232) (hl1:1≤l.length) (ht:Zp w) :
  Calls Tryz.prog 163 #[.string (za l)] w fun e w'=>e=.returned (zW (Z1 l))∧Below w.heap.size w w':=by
 have HT:Hid (Zp w):=ht;have aB:(za l).size=l.length:=rfl;have hA:Below w.heap.size w (w.alloc Z2):=(Below.refl w.heap.size w).alloc (Nat.le_refl _) _;have HA:Hid (Below w.heap.size w (w.alloc Z2)):=hA;clear ht hA
 go_enter Tryz.func163,Tryz.ntmps163
 go_wp2
 go_loopw [5,6] (fun vm va wr=>∃(f at0:Nat) (o:List UInt8),va=.int .i64 at0∧at0≤l.length∧l.length≤at0+f∧o.length≤255∧Z1 l=z7 f o at0 (l.drop at0) ∧
   wr.ownsRow (w.heap.size+1) 5 1 vm o.length (Lib.byteCells o)∧Below (w.heap.size+1) (w.alloc Z2) wr) (fun _ a _=>l.length-(intOf a).toNat)
 case atStart=>exact ⟨l.length,1,[],rfl,hl1,by omega,by simp,rfl,World.ownsRow_nil _ _ _ _,Below.refl _ _⟩
 case round =>
  obtain ⟨f,at0,o,rfl,aC,az,an,aj,R,H⟩:=hrel;have ad:Hid (Z1 l=z7 f o at0 (l.drop at0)):=aj;have ak:Hid (Below (w.heap.size+1) (w.alloc Z2) wr):=H;have HB:Hid (Below w.heap.size w wr):=HA.out.trans (H.mono (by omega))
  have Q:=H.size;rw [World.size_alloc] at Q;obtain ⟨D,ab⟩:=yf H;have HO:Hid (wr.ownsRow (w.heap.size+1) 5 1 u5 o.length (Lib.byteCells o)):=R;clear aj H R
  by_cases hlt:at0<l.length
  ·obtain ⟨x,r,A⟩:∃x r,l.drop at0=x::r:=⟨l[at0],l.drop (at0+1),List.drop_eq_getElem_cons hlt⟩
   have ai:l[at0]=x:=by
    have h:=List.drop_eq_getElem_cons hlt;rw [A] at h;exact (List.cons.inj h).1.symm
   have S:=fun wx=>xT wx l at0 hlt
   rw [ai] at S;obtain ⟨n,hn⟩:∃n,n=x.toNat:=⟨_,rfl⟩;rw [←hn] at S;have au:n<256:=by rw [hn];exact UInt8.toNat_lt x
   obtain ⟨Y,rfl⟩:∃Y,f=Y+1:=⟨f-1,by omega⟩
   have Z:Hid (Z1 l=if n=34 then ⟨3,o,0,at0+1,0⟩ else if (Yo (x::r)).2=0 then ⟨0,[],0,0,6⟩ else if o.length=255 then ⟨0,[],0,0,5⟩ else z7 Y (o++[(Yo (x::r)).1.toUInt8]) (at0+(Yo (x::r)).2) ((x::r).drop (Yo (x::r)).2)):=show _=_ by
    rw [ad.out,A,hn];rfl
   have al:=fun wx=>yA wx l at0 (by omega)
   rw [A] at al;have aa:(x::r).length=l.length-at0:=by rw [←A,List.length_drop]
   have aq:Hid (l.drop at0=x::r):=A;clear ai hn A
   by_cases h34:n=34
   ·have M:Hid (Z1 l=⟨3,o,0,at0+1,0⟩):=show _=_ by rw [Z.out,if_pos h34]
    subst h34;obtain ⟨y,I,rfl,E,-,-,-⟩:=Yq HO.out;have aA:=Xk wr y o I E;clear E;go_wp2
    refine bodyPost_ret (v:=zW ⟨3,o,0,at0+1,0⟩) (by simp [results,Tryz.results163,go_sem,zW,D]) rfl ⟨by rw [M.out],?_⟩
    exact Zh HB.out _ _ _ _ _
   ·have ax:((n:Int)==34)=false:=by rw [beq_eq_false_iff_ne];omega
    have G:=ua (x::r);have cb:=xV x r wr (by simp at aa;omega) (HT.out.below HB.out (Nat.le_refl _))
    obtain ⟨c,L,V⟩:∃c L,Yo (x::r)=(c,L):=⟨_,_,rfl⟩;rw [V] at cb G;simp only at G
    have T:Hid (Z1 l=if L=0 then ⟨0,[],0,0,6⟩ else if o.length=255 then ⟨0,[],0,0,5⟩ else z7 Y (o++[c.toUInt8]) (at0+L) ((x::r).drop L)):=show _=_ by
     rw [Z.out,if_neg h34,V]
    clear V h34;go_wp2_with fail
    refine cb.mono ?_;clear cb D ab;rintro e w2 ⟨rfl,O⟩;have av:=O.size;have N:Below (w.heap.size+1) (w.alloc Z2) w2:=ak.out.trans (O.mono Q);obtain ⟨D,ab⟩:=yf N;have ar:Hid (Below (w.heap.size+1) (w.alloc Z2) w2):=N;have af:Hid (Below w.heap.size w w2):=HA.out.trans (N.mono (by omega))
    have U:Hid (w2.ownsRow (w.heap.size+1) 5 1 u5 o.length (Lib.byteCells o)):=Vj HO.out O (Nat.le_refl _);clear O N HO ak
    by_cases hs0:L=0
    ·have M:Hid (Z1 l=⟨0,[],0,0,6⟩):=show _=_ by rw [T.out,if_pos hs0]
     subst hs0;go_wp2
     refine bodyPost_ret (v:=zW ⟨0,[],0,0,6⟩) (by simp [results,Tryz.results163,go_sem,zW,D]) rfl ⟨by rw [M.out],?_⟩
     exact Zh af.out _ _ _ _ _
    ·have aw:((L:Int)==0)=false:=by rw [beq_eq_false_iff_ne];omega
     obtain ⟨y,I,rfl,-,-,-,-⟩:=Yq U.out;obtain ⟨X,z⟩:∃X,X=o.length:=⟨_,rfl⟩;have ae:Hid (X=o.length):=z;rw [←z]
     by_cases h255:X=255
     ·have M:Hid (Z1 l=⟨0,[],0,0,5⟩):=show _=_ by rw [T.out,if_neg hs0,if_pos (by rw [←z];exact h255)]
      clear z;subst h255;go_wp2
      refine bodyPost_ret (v:=zW ⟨0,[],0,0,5⟩) (by simp [results,Tryz.results163,go_sem,zW,D]) rfl ⟨by rw [M.out],?_⟩
      exact Zh af.out _ _ _ _ _
     ·have am:((X:Int)==255)=false:=by rw [beq_eq_false_iff_ne];omega
      have M:Hid (Z1 l=z7 Y (o++[c.toUInt8]) (at0+L) (l.drop (at0+L))):=show _=_ by
       rw [T.out,if_neg hs0,if_neg (by rw [←z];exact h255),←aq.out,List.drop_drop]
      have ah:Hid (w2.ownsRow (w.heap.size+1) 5 1 (.slice y X I) o.length (Lib.byteCells o)):=by rw [z];exact U.out
      have W:=G.2;have ag:=G.1;rw [aa] at ag;have ay:o.length≤255:=an;clear z U G
      go_wp2_with (at_builtin;refine xO rfl _ _ rfl (w.heap.size+1) _ o rfl (ah.out.alloc _) _ [c.toUInt8] rfl (Xq W (by simp)) (by simp;omega) (by simp;omega) ?_)
      intro v3 w3 K J;have ao:Hid (Below (w.heap.size+1) (w.alloc Z2) w3):=(ar.out.alloc (by omega) _).grown J (by simp;omega) (fun q hq=>(ah.out.lt q hq).1)
      have ap:Hid (w3.ownsRow (w.heap.size+1) 5 1 v3 (o++[c.toUInt8]).length (Lib.byteCells (o++[c.toUInt8]))):=by
       rw [show (o++[c.toUInt8]).length=o.length+1 by simp];exact K
      clear J K;go_wp2
      refine ⟨⟨Y,at0+L,o++[c.toUInt8],by go_num,by omega,by omega,?_,M.out,ap.out,ao.out⟩,by simp [intOf];omega⟩
      rw [List.length_append,List.length_singleton,←ae.out]
      have:=ae.out
      omega
  ·obtain rfl:at0=l.length:=by omega
   have M:Hid (Z1 l=⟨0,[],0,0,6⟩):=show _=_ by
    rw [ad.out,List.drop_length];cases f <;> rfl
   go_wp2
   refine bodyPost_ret (v:=zW ⟨0,[],0,0,6⟩) (by simp [results,Tryz.results163,go_sem,zW,D]) rfl ⟨by rw [M.out],?_⟩
   exact Zh HB.out _ _ _ _ _
def Zw (l:List UInt8):TR :=
 match l with
 | []=>⟨0,[],0,0,0⟩
 | x::_=>if ZT x.toNat=true then ye l else if Zd x.toNat=true then YI l else if x.toNat=34 then Z1 l else yE l
theorem uG {x:UInt8} {r:List UInt8} (h:Zd x.toNat=true):digL (x::r)≠[]:=by
 unfold digL;simp [h]
theorem Vk (l:List UInt8) (w:World) (hl:l.length≤140737488351232) (ht:Zp w) :
  Calls Tryz.prog 141 #[.string (za l)] w fun e w'=>e=.returned (zW (Zw l))∧Below w.heap.size w w':=by
 have S:Below w.heap.size w (w.alloc Z2):=(Below.refl w.heap.size w).alloc (Nat.le_refl _) _;have N:Hid (Below w.heap.size w (w.alloc Z2)):=S;have Q:Hid (Zp (w.alloc Z2)):=ht.alloc _;clear ht S;cases l with
 | nil =>
  go_enter Tryz.func141,Tryz.ntmps141
  go_wp2
  refine bodyPost_ret (v:=zW ⟨0,[],0,0,0⟩) (by simp [results,Tryz.results141,go_sem,zW]) rfl ⟨rfl,?_⟩
  exact N.out
 | cons x r =>
  have J:=fun wx=>xT wx (x::r) 0 (by simp)
  rw [show ((0:Nat):Int)=0 from rfl,show (x::r)[0]=x from rfl] at J
  obtain ⟨n,O⟩:∃n,n=x.toNat:=⟨_,rfl⟩;rw [←O] at J;have G:n<256:=by rw [O];exact UInt8.toNat_lt x
  have I:Hid (Zw (x::r)=if ZT n=true then ye (x::r) else if Zd n=true then YI (x::r) else if n=34 then Z1 (x::r) else yE (x::r)):=show _=_ by rw [O];rfl
  have W:Hid (Zd n=true→digL (x::r)≠[]):=fun h=>uG (by rw [←O];exact h)
  have Y:¬ (x::r)=[]:=by simp
  clear O
  go_enter Tryz.func141,Tryz.ntmps141
  have X:(x::r).length≤140737488351232:=hl;have H:Hid (∀(R:TR) (A:World),Below (w.alloc Z2).heap.size (w.alloc Z2) A→Below (w.heap.size+1) (w.alloc Z2) A):=fun R A h=>by rw [World.size_alloc] at h;exact h
  have V:=Z0 n G (w.alloc Z2);go_wp2_with fail
  refine V.mono ?_;clear V;rintro e A ⟨rfl,rfl⟩;cases h1:ZT n with
  | true =>
   obtain ⟨R,D⟩:∃R,R=ye (x::r):=⟨_,rfl⟩;have z:=Y8 (x::r) (w.alloc Z2) (by omega) Q.out
   rw [←D] at z;have M:Hid (Zw (x::r)=R):=show _=_ by rw [I.out,if_pos h1,D]
   unfold zW at z
   clear D;go_wp2_with fail
   refine z.mono ?_;clear z;rintro e A ⟨rfl,y⟩;have o:=H.out R A y;obtain ⟨E,K⟩:=yf o;have L:Hid (Below w.heap.size w A):=N.out.trans (o.mono (by omega))
   clear y o;go_wp2
   refine bodyPost_ret (v:=zW R) (by simp [results,Tryz.results141,go_sem,zW,E]) rfl ⟨by rw [M.out],?_⟩
   exact Zh L.out _ _ _ _ _
  | false =>
   have U:=yB n G (w.alloc Z2);go_wp2_with fail
   refine U.mono ?_;clear U;rintro e A ⟨rfl,rfl⟩;cases h2:Zd n with
   | true =>
    obtain ⟨R,D⟩:∃R,R=YI (x::r):=⟨_,rfl⟩;have z:=Yn (x::r) (w.alloc Z2) (by omega) (W.out h2) Q.out
    rw [←D] at z;have M:Hid (Zw (x::r)=R):=show _=_ by rw [I.out,if_neg (by rw [h1];simp),if_pos h2,D]
    unfold zW at z
    clear D;go_wp2_with fail
    refine z.mono ?_;clear z;rintro e A ⟨rfl,y⟩;have o:=H.out R A y;obtain ⟨E,K⟩:=yf o;have L:Hid (Below w.heap.size w A):=N.out.trans (o.mono (by omega))
    clear y o;go_wp2
    refine bodyPost_ret (v:=zW R) (by simp [results,Tryz.results141,go_sem,zW,E]) rfl ⟨by rw [M.out],?_⟩
    exact Zh L.out _ _ _ _ _
   | false =>
    by_cases h34:n=34
    ·obtain ⟨R,D⟩:∃R,R=Z1 (x::r):=⟨_,rfl⟩
     have z:=xd (x::r) (w.alloc Z2) (by omega) (by simp) Q.out
     rw [←D] at z;have M:Hid (Zw (x::r)=R):=show _=_ by rw [I.out,if_neg (by rw [h1];simp),if_neg (by rw [h2];simp),if_pos h34,D]
     subst h34
     unfold zW at z
     clear D;go_wp2_with fail
     refine z.mono ?_;clear z;rintro e A ⟨rfl,y⟩;have o:=H.out R A y;obtain ⟨E,K⟩:=yf o;have L:Hid (Below w.heap.size w A):=N.out.trans (o.mono (by omega))
     clear y o;go_wp2
     refine bodyPost_ret (v:=zW R) (by simp [results,Tryz.results141,go_sem,zW,E]) rfl ⟨by rw [M.out],?_⟩
     exact Zh L.out _ _ _ _ _
    ·obtain ⟨R,D⟩:∃R,R=yE (x::r):=⟨_,rfl⟩
     have T:((n:Int)==34)=false:=by rw [beq_eq_false_iff_ne];omega
     have z:=Y9 (x::r) (w.alloc Z2) Q.out;rw [←D] at z;have M:Hid (Zw (x::r)=R):=show _=_ by rw [I.out,if_neg (by rw [h1];simp),if_neg (by rw [h2];simp),if_neg h34,D]
     unfold zW at z
     clear D;go_wp2_with fail
     refine z.mono ?_;clear z;rintro e A ⟨rfl,y⟩;have o:=H.out R A y;obtain ⟨E,K⟩:=yf o;have L:Hid (Below w.heap.size w A):=N.out.trans (o.mono (by omega))
     clear y o;go_wp2
     refine bodyPost_ret (v:=zW R) (by simp [results,Tryz.results141,go_sem,zW,E]) rfl ⟨by rw [M.out],?_⟩
     exact Zh L.out _ _ _ _ _
end Go.Proofs.YtmbofhpmockmbaaGreatDoor

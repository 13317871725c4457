import Derived.Test.YtmbofhpmockmbaaGreatDoorXGap
import Derived.Test.YtmbofhpmockmbaaGreatDoorWAll
import Derived.Deep.MidRow
import Derived.LoopN
namespace Go.Proofs.YtmbofhpmockmbaaGreatDoor
open Go.RowKit
set_option maxHeartbeats 16000000
set_option maxRecDepth 100000
structure TR where
 k:Nat
 s:List UInt8
 n:Nat
 sz:Nat
 e:Nat
def zT (r:TR):Value:=.tuple #[.agg #[.int .i64 r.k,.string (za r.s),.int .i64 r.n,.int .i64 0,.int .i64 0],.int .i64 r.sz,.int .i64 r.e]
def ZH (l:List UInt8):List UInt8:=l.takeWhile fun c=>Yf c.toNat
def Z2 (l:List UInt8):TR:=if ZW (ZH l)=true then ⟨5,ZH l,0,(ZH l).length,0⟩ else if 20<(ZH l).length then ⟨0,[],0,0,5⟩ else ⟨1,ZH l,0,(ZH l).length,0⟩
theorem xH (p:UInt8→Bool) (l:List UInt8):l.take (l.takeWhile p).length=l.takeWhile p:=by
 induction l with
 | nil=>rfl
 | cons x l ih =>
  by_cases h:p x=true
  ·simp [h,ih]
  ·simp [h]
theorem Yi (l:List UInt8):(ZH l).length≤l.length:=(List.takeWhile_sublist _).length_le
theorem Zh.alloc {w:World} (h:Zh w) (o:Obj):Zh (w.alloc o) :=
 ⟨fun j hj=>Lib.cell?_alloc_some o (h.words j hj),fun j hj=>Lib.cell?_alloc_some o (h.signs j hj),fun j hj=>Lib.cell?_alloc_some o (h.escs j hj),by obtain ⟨a,b,c⟩:=h.range;exact ⟨a,b,Lib.cell?_alloc_some o c⟩⟩
theorem Zh.below {w w':World} {B:Nat} (h:Zh w) (hb:Below B w w') (hB:w.heap.size≤B):Zh w':=by
 have e:∀{p:Addr} {v:Value},w.cell? p=some v→w'.cell? p=some v:=fun {p v} hp=>by
  rw [hb.cell (Nat.lt_of_lt_of_le (World.block_lt_of_cell? w _ hp) hB)];exact hp
 exact ⟨fun j hj=>e (h.words j hj),fun j hj=>e (h.signs j hj),fun j hj=>e (h.escs j hj),by obtain ⟨a,b,c⟩:=h.range;exact ⟨a,b,e c⟩⟩
theorem YF (l:List UInt8) (w:World) (hl:l.length≤9223372036854775000) (ht:Zh w) :
  Calls Tryz.prog 160 #[.string (za l)] w fun e w'=>e=.returned (zT (Z2 l))∧Below w.heap.size w w':=by
 have J:Hid (Zh w):=ht;have y:=Yi l;obtain ⟨m,z⟩:∃m,m=(ZH l).length:=⟨_,rfl⟩;rw [←z] at y;have A:=fun wx=>Xh wx l m y
 rw [show l.take m=ZH l by rw [z];exact xH _ l] at A
 have D:Hid (m=(ZH l).length):=z;clear ht
 have K:Hid (∀wx,Calls Tryz.prog 152 #[.string (za l),.func (.func 173) #[] #[]] wx fun e w'=>e=.returned (.int .i64 m)∧wx=w'):=fun wx=>by
  rw [z];exact vR l wx hl
 have H:Hid (∀wx,Zh wx→Calls Tryz.prog 174 #[.string (za (ZH l))] wx fun e w'=>e=.returned (.bool (ZW (ZH l)))∧wx=w'):=fun wx h=>vT _ wx h
 clear z;have L:=(Below.refl w.heap.size w).alloc (Nat.le_refl _);obtain ⟨x,E⟩:∃x,x=ZH l:=⟨_,rfl⟩;rw [←E] at A H D;have G:Hid (x=ZH l):=E;clear E
 go_enter Tryz.func160,Tryz.ntmps160
 go_wp2_with fail
 refine (K.out _).mono ?_;rintro e I ⟨rfl,rfl⟩;go_wp2_with fail
 refine (H.out _ (J.out.alloc _)).mono ?_;rintro e I ⟨rfl,rfl⟩;cases hq:ZW x with
 | true =>
  have o:Hid (Z2 l=⟨5,x,0,m,0⟩):=by unfold Z2;rw [←G.out,if_pos hq,←D.out];rfl
  go_wp2
  refine bodyPost_ret (v:=zT ⟨5,x,0,m,0⟩) (by simp [results,Tryz.results160,go_sem,zT]) rfl ⟨by rw [o.out],?_⟩
  exact (Below.refl w.heap.size w).alloc (Nat.le_refl _) _
 | false =>
  by_cases h20:20<m
  ·have o:Hid (Z2 l=⟨0,[],0,0,5⟩):=by unfold Z2;rw [←G.out,if_neg (by rw [hq];simp),if_pos (by rw [←D.out];exact h20)];rfl
   go_wp2
   refine bodyPost_ret (v:=zT ⟨0,[],0,0,5⟩) (by simp [results,Tryz.results160,go_sem,zT]) rfl ⟨by rw [o.out],?_⟩
   exact (Below.refl w.heap.size w).alloc (Nat.le_refl _) _
  ·have o:Hid (Z2 l=⟨1,x,0,m,0⟩):=by unfold Z2;rw [←G.out,if_neg (by rw [hq];simp),if_neg (by rw [←D.out];exact h20),←D.out];rfl
   go_wp2
   refine bodyPost_ret (v:=zT ⟨1,x,0,m,0⟩) (by simp [results,Tryz.results160,go_sem,zT]) rfl ⟨by rw [o.out],?_⟩
   exact (Below.refl w.heap.size w).alloc (Nat.le_refl _) _
def valA (acc:Nat):List UInt8→Nat
 | []=>acc
 | c::r=>valA (acc*10+(c.toNat-48)) r
theorem XK:∀(r:List UInt8) (acc:Nat),acc≤valA acc r
 | [],_=>Nat.le_refl _
 | c::r,acc=>Nat.le_trans (by omega) (XK r (acc*10+(c.toNat-48)))
theorem xf (ds:List UInt8):∀(e:Nat),(∀c∈ds,z8 c.toNat=true)→e<18446744073709551616 →
  Lib.parseUint10 e ds=if valA e ds<18446744073709551616 then .ok (valA e ds) else .range:=by
 induction ds with
 | nil =>
  intro e _ x;rw [show valA e []=e from rfl,if_pos x]
  rfl
 | cons c r ih =>
  intro e h x;have o:=h c (List.mem_cons_self ..)
  unfold z8 at o
  rw [Bool.and_eq_true,decide_eq_true_eq,decide_eq_true_eq] at o;have y:=XK r (e*10+(c.toNat-48));rw [show valA e (c::r)=valA (e*10+(c.toNat-48)) r from rfl]
  unfold Lib.parseUint10
  rw [if_pos o]
  by_cases h1:1844674407370955162≤e
  ·rw [if_pos h1,if_neg (by omega)]
  ·rw [if_neg h1]
   by_cases h2:18446744073709551616≤e*10+(c.toNat-48)
   ·rw [if_pos h2,if_neg (by omega)]
   ·rw [if_neg h2]
    exact ih _ (fun d hd=>h d (List.mem_cons_of_mem _ hd)) (by omega)
theorem xI {ds:List UInt8} (h:∀c∈ds,z8 c.toNat=true) (hne:ds≠[]) :
  Lib.atoiAll ds=if valA 0 ds<9223372036854775808 then .ok (valA 0 ds:Int) else .range:=by
 cases ds with
 | nil=>exact absurd rfl hne
 | cons c r =>
  have o:=h c (List.mem_cons_self ..)
  unfold z8 at o
  rw [Bool.and_eq_true,decide_eq_true_eq,decide_eq_true_eq] at o;have z:¬ (c.toNat=43∨c.toNat=45):=by omega
  have e:¬ c.toNat=45:=by omega
  have x:Lib.parseMag (c::r)=if valA 0 (c::r)<18446744073709551616 then .ok (valA 0 (c::r)) else .range:=by
   unfold Lib.parseMag;rw [if_neg (by simp)];exact xf _ 0 h (by omega)
  generalize valA 0 (c::r)=v at x ⊢;have y:(if c.toNat=43∨c.toNat=45 then r else c::r)=c::r:=if_neg z
  unfold Lib.atoiAll
  simp only [y];rw [x]
  by_cases h3:v<18446744073709551616
  ·rw [if_pos h3]
   by_cases h4:v<9223372036854775808
   ·simp only
    rw [if_neg (by omega),if_neg (by omega),if_neg e,if_pos h4]
   ·simp only
    rw [if_pos ⟨e,by omega⟩,if_neg h4]
  ·rw [if_neg h3,if_neg (by omega)]
theorem XL {p:UInt8→Bool}:∀(l:List UInt8) (c:UInt8),c∈l.takeWhile p→p c=true
 | [],c,h=>by simp at h
 | x::l,c,h=>by
  by_cases hx:p x=true
  ·rw [List.takeWhile_cons_of_pos hx] at h
   rcases List.mem_cons.1 h with rfl | h
   ·exact hx
   ·exact XL l c h
  ·rw [List.takeWhile_cons_of_neg hx] at h
   simp at h
def digL (l:List UInt8):List UInt8:=l.takeWhile fun c=>z8 c.toNat
def Yj (l:List UInt8):TR:=if valA 0 (digL l)<9223372036854775808 then ⟨2,[],valA 0 (digL l),(digL l).length,0⟩ else ⟨0,[],0,0,5⟩
theorem XM (l:List UInt8):(digL l).length≤l.length:=(List.takeWhile_sublist _).length_le
theorem vW (l:List UInt8):∀c∈digL l,z8 c.toNat=true:=fun c hc=>XL (p:=fun c=>z8 c.toNat) l c hc
theorem y4 (l:List UInt8) (w:World) (hl:l.length≤140737488351232) (hne:digL l≠[]) (ht:Zh w) :
  Calls Tryz.prog 162 #[.string (za l)] w fun e w'=>e=.returned (zT (Yj l))∧Below w.heap.size w w':=by
 have X:Hid (Zh w):=ht;have E:=XM l;obtain ⟨m,H⟩:∃m,m=(digL l).length:=⟨_,rfl⟩;rw [←H] at E;have J:=fun wx=>Xh wx l m E
 rw [show l.take m=digL l by rw [H];exact xH _ l] at J
 have L:Hid (m=(digL l).length):=H;have V:m≤140737488351232:=by omega
 clear ht
 have Y:Hid (∀wx,Calls Tryz.prog 152 #[.string (za l),.func (.func 161) #[] #[]] wx fun e w'=>e=.returned (.int .i64 m)∧wx=w'):=fun wx=>by
  rw [H];exact X7 l wx (by omega)
 have y:=xI (vW l) hne;obtain ⟨x,O⟩:∃x,x=digL l:=⟨_,rfl⟩;rw [←O] at J L y;obtain ⟨v,R⟩:∃v,v=valA 0 x:=⟨_,rfl⟩;rw [←R] at y;have U:Hid (x=digL l):=O;have S:Hid (v=valA 0 x):=R;have I:Hid (Lib.atoiAll x=if v<9223372036854775808 then .ok (v:Int) else .range):=y
 clear O R y H
 go_enter Tryz.func162,Tryz.ntmps162
 go_wp2_with fail
 refine (Y.out _).mono ?_;rintro e w1 ⟨rfl,rfl⟩
 by_cases h63:v<9223372036854775808
 ·have K:=fun wx=>Tryz.strconv_Atoi_ok (za x) (by rw [zU,←L.out];omega) v (by show Lib.atoiAll x=_;rw [I.out,if_pos h63]) wx
  have N:Hid (Yj l=⟨2,[],v,m,0⟩):=by unfold Yj;rw [←U.out,←S.out,if_pos h63,←L.out];rfl
  go_wp2_with fail
  refine (K _).mono ?_;clear K;rintro e w1 ⟨rfl,D⟩
  have h:Below (w.heap.size+1) (w.alloc (Obj.cells #[Value.int IntKind.i64 0,Value.string ⟨#[]⟩,Value.int IntKind.i64 0,Value.int IntKind.i64 0,Value.int IntKind.i64 0] 142)) w1:=by
   rcases D with rfl | ⟨t,rfl⟩
   ·exact Below.refl _ _
   ·have G:=Lib.bytesWorld_below (w.alloc (Obj.cells #[Value.int IntKind.i64 0,Value.string ⟨#[]⟩,Value.int IntKind.i64 0,Value.int IntKind.i64 0,Value.int IntKind.i64 0] 142)) 5 t
    rw [World.size_alloc] at G;exact G
  clear D
  obtain ⟨z,M⟩:(∀o,w1.cell? ⟨w.heap.size,o,none⟩=(w.alloc (Obj.cells #[Value.int IntKind.i64 0,Value.string ⟨#[]⟩,Value.int IntKind.i64 0,Value.int IntKind.i64 0,Value.int IntKind.i64 0] 142)).cell? ⟨w.heap.size,o,none⟩)∧(∀o,w1.frozen? ⟨w.heap.size,o,none⟩=(w.alloc (Obj.cells #[Value.int IntKind.i64 0,Value.string ⟨#[]⟩,Value.int IntKind.i64 0,Value.int IntKind.i64 0,Value.int IntKind.i64 0] 142)).frozen? ⟨w.heap.size,o,none⟩) :=
   ⟨fun o=>h.cell (p:=⟨w.heap.size,o,none⟩) (by simp),fun o=>h.frozen (p:=⟨w.heap.size,o,none⟩) (by simp)⟩
  have Q:Hid (Below w.heap.size w w1):=((Below.refl w.heap.size w).alloc (Nat.le_refl _) _).trans (h.mono (by omega))
  clear h;go_wp2
  refine bodyPost_ret (v:=zT ⟨2,[],v,m,0⟩) (by simp [results,Tryz.results162,go_sem,zT,z]) rfl ⟨by rw [N.out],?_⟩
  exact ((((Q.out.setCell (p:=⟨w.heap.size,0,none⟩) (Nat.le_refl _) _).setCell (p:=⟨w.heap.size,1,none⟩) (Nat.le_refl _) _).setCell (p:=⟨w.heap.size,2,none⟩) (Nat.le_refl _) _).setCell (p:=⟨w.heap.size,3,none⟩) (Nat.le_refl _) _).setCell (p:=⟨w.heap.size,4,none⟩) (Nat.le_refl _) _
 ·obtain ⟨T,W,A⟩:=X.out.range
  have K:=Tryz.strconv_Atoi_range (za x) (by rw [zU,←L.out];omega) (by show Lib.atoiAll x=_;rw [I.out,if_neg h63]) (.iface T W) (w.alloc (Obj.cells #[Value.int IntKind.i64 0,Value.string ⟨#[]⟩,Value.int IntKind.i64 0,Value.int IntKind.i64 0,Value.int IntKind.i64 0] 142)) (Lib.cell?_alloc_some _ A) (.inr ⟨T,W,rfl⟩)
  have N:Hid (Yj l=⟨0,[],0,0,5⟩):=by unfold Yj;rw [←U.out,←S.out,if_neg h63];rfl
  go_wp2_with fail
  refine K.mono ?_;clear K;rintro e w1 ⟨Z,rfl,-,-,h⟩;rw [World.size_alloc] at h
  obtain ⟨z,M⟩:(∀o,w1.cell? ⟨w.heap.size,o,none⟩=(w.alloc (Obj.cells #[Value.int IntKind.i64 0,Value.string ⟨#[]⟩,Value.int IntKind.i64 0,Value.int IntKind.i64 0,Value.int IntKind.i64 0] 142)).cell? ⟨w.heap.size,o,none⟩)∧(∀o,w1.frozen? ⟨w.heap.size,o,none⟩=(w.alloc (Obj.cells #[Value.int IntKind.i64 0,Value.string ⟨#[]⟩,Value.int IntKind.i64 0,Value.int IntKind.i64 0,Value.int IntKind.i64 0] 142)).frozen? ⟨w.heap.size,o,none⟩) :=
   ⟨fun o=>h.cell (p:=⟨w.heap.size,o,none⟩) (by simp),fun o=>h.frozen (p:=⟨w.heap.size,o,none⟩) (by simp)⟩
  have Q:Hid (Below w.heap.size w w1):=((Below.refl w.heap.size w).alloc (Nat.le_refl _) _).trans (h.mono (by omega))
  clear h A;go_wp2
  refine bodyPost_ret (v:=zT ⟨0,[],0,0,5⟩) (by simp [results,Tryz.results162,go_sem,zT,z]) rfl ⟨by rw [N.out],?_⟩
  exact ((((Q.out.setCell (p:=⟨w.heap.size,0,none⟩) (Nat.le_refl _) _).setCell (p:=⟨w.heap.size,1,none⟩) (Nat.le_refl _) _).setCell (p:=⟨w.heap.size,2,none⟩) (Nat.le_refl _) _).setCell (p:=⟨w.heap.size,3,none⟩) (Nat.le_refl _) _).setCell (p:=⟨w.heap.size,4,none⟩) (Nat.le_refl _) _
def longer (l best x:List UInt8):List UInt8:=if best.length<x.length∧Lib.hasPrefix l x=true then x else best
def bestS (l:List UInt8) (n:Nat):List UInt8:=(signsL.take n).foldl (longer l) []
def yn (l:List UInt8):TR:=if bestS l 25=[] then ⟨0,[],0,0,6⟩ else ⟨4,bestS l 25,0,(bestS l 25).length,0⟩
theorem Xj (l:List UInt8) (n:Nat) (h:n<signsL.length):bestS l (n+1)=longer l (bestS l n) signsL[n]:=by
 unfold bestS;rw [List.take_succ_eq_append_getElem h,List.foldl_append];rfl
theorem YT (l:List UInt8) (n:Nat):(bestS l n).length≤2:=by
 have o:∀(e:List (List UInt8)) (b:List UInt8),(∀x∈e,x.length≤2)→b.length≤2→(e.foldl (longer l) b).length≤2:=by
  intro e
  induction e with
  | nil=>intro b _ z;exact z
  | cons x e ih =>
   intro b h z;refine ih _ (fun y hy=>h y (List.mem_cons_of_mem _ hy)) ?_
   unfold longer
   split
   ·exact h x (List.mem_cons_self ..)
   ·exact z
 exact o _ _ (fun x h=>by
  have:∀x∈signsL,x.length≤2:=by decide
  exact this x (List.mem_of_mem_take h)) (by simp)
def yM:List Value:=signsL.map fun x=>.string (za x)
def signsV:Value:=.agg yM.toArray
theorem xJ {w:World} (ht:Zh w):w.rangeAt 8 0 yM:=fun j v hv=>by
 unfold yM at hv
 rw [List.getElem?_map] at hv;rcases Nat.lt_or_ge j signsL.length with h | h
 ·rw [List.getElem?_eq_getElem h] at hv
  simp only [Option.map_some,Option.some.injEq] at hv;rw [Nat.zero_add,ht.signs j h,hv]
 ·rw [List.getElem?_eq_none h] at hv;cases hv
theorem Xk:(Tryz.prog.info? 225).map (·.size)=some yM.length:=by kernel_rfl
theorem YG (l:List UInt8) (w:World) (ht:Zh w) :
  Calls Tryz.prog 164 #[.string (za l)] w fun e w'=>e=.returned (zT (yn l))∧Below w.heap.size w w':=by
 have Q:Hid (Zh w):=ht;clear ht
 go_enter Tryz.func164,Tryz.ntmps164
 go_wp2_with (refine wpList_load_mid rfl 225 _ rfl 8 0 rfl yM _ (xJ (Q.out.alloc _)) Tryz.underlying225 rfl Xk ?_)
 have S:Hid (∀(wx:World) (i:Nat) (h:i<25),(Instr.index 225 signsV (.int .i64 (i:Int))).run Tryz.prog wx=.ok (.string (za (signsL[i]'h))) wx):=fun wx i h=>vd wx i h
 rw [show Value.agg yM.toArray=signsV from rfl]
 generalize signsV=A at *
 go_loop [5,9] (fun vb v=>∃i:Nat,i≤25∧v=.int .i64 i∧vb=.string (za (bestS l i))) (fun _ v=>25-(intOf v).toNat)
 case atStart=>exact ⟨0,Nat.zero_le _,rfl,rfl⟩
 case round =>
  obtain ⟨i,T,rfl,rfl⟩:=hrel;have H:=YT l i;obtain ⟨b,K⟩:∃b,b=bestS l i:=⟨_,rfl⟩;rw [←K] at H ⊢;have L:Hid (b=bestS l i):=K;clear K
  by_cases hlt:i<25
  ·have z:=fun wx=>S.out wx i hlt
   obtain ⟨x,G⟩:∃x,x=signsL[i]'hlt:=⟨_,rfl⟩;rw [←G] at z
   have R:x.length≤2:=by
    have:∀x∈signsL,x.length≤2:=by decide
    rw [G];exact this _ (List.getElem_mem _)
   have J:Hid (bestS l (i+1)=longer l b x):=show bestS l (i+1)=longer l b x by rw [Xj l i hlt,L.out,G]
   have O:(za x).size=x.length:=rfl;have M:(za b).size=b.length:=rfl;clear G
   by_cases hlen:b.length<x.length
   ·have E:=fun wx=>Tryz.strings_HasPrefix (za l) (za x) wx
    cases hp:Lib.hasPrefix l x with
    | true =>
     have D:Lib.hasPrefix (za l).data.toList (za x).data.toList=true:=hp;rw [D] at E;have o:Hid (bestS l (i+1)=x):=show bestS l (i+1)=x by rw [J.out];unfold longer;rw [if_pos ⟨hlen,hp⟩]
     clear D;go_wp2_with (go_at_call 154;refine (E _).mono ?_;rintro e N ⟨rfl,rfl⟩)
     refine ⟨⟨i+1,by omega,by go_num,by rw [o.out]⟩,by simp [intOf];omega⟩
    | false =>
     have D:Lib.hasPrefix (za l).data.toList (za x).data.toList=false:=hp;rw [D] at E;have o:Hid (bestS l (i+1)=b):=show bestS l (i+1)=b by rw [J.out];unfold longer;rw [if_neg (fun h=>by rw [hp] at h;exact absurd h.2 (by decide))]
     clear D;go_wp2_with (go_at_call 154;refine (E _).mono ?_;rintro e N ⟨rfl,rfl⟩)
     refine ⟨⟨i+1,by omega,by go_num,by rw [o.out]⟩,by simp [intOf];omega⟩
   ·have o:Hid (bestS l (i+1)=b):=show bestS l (i+1)=b by rw [J.out];unfold longer;rw [if_neg (fun h=>hlen h.1)]
    go_wp2
    refine ⟨⟨i+1,by omega,by go_num,by rw [o.out]⟩,by simp [intOf];omega⟩
  ·obtain rfl:i=25:=by omega
   have M:(za b).size=b.length:=rfl;cases b with
   | nil =>
    have I:Hid (yn l=⟨0,[],0,0,6⟩):=by unfold yn;rw [←L.out,if_pos rfl];rfl
    go_wp2
    refine bodyPost_ret (v:=zT ⟨0,[],0,0,6⟩) (by simp [results,Tryz.results164,go_sem,zT]) rfl ⟨by rw [I.out],?_⟩
    exact (Below.refl w.heap.size w).alloc (Nat.le_refl _) _
   | cons y ys =>
    have I:Hid (yn l=⟨4,y::ys,0,(y::ys).length,0⟩):=by unfold yn;rw [←L.out,if_neg (by simp)];rfl
    go_wp2
    refine bodyPost_ret (v:=zT ⟨4,y::ys,0,(y::ys).length,0⟩) (by simp [results,Tryz.results164,go_sem,zT]) rfl ⟨by rw [I.out],?_⟩
    exact (Below.refl w.heap.size w).alloc (Nat.le_refl _) _
def y5:List UInt8→Nat × Nat
 | []=>(0,0)
 | x::r=>if x.toNat<32∨126<x.toNat then (0,0) else if x.toNat≠92 then (x.toNat,1) else
  match r with
  | []=>(0,0)
  | y::_=>if y.toNat=92 then (92,2) else if y.toNat=34 then (34,2) else if y.toNat=110 then (10,2) else (0,0)
theorem xg (w:World) (l:List UInt8) (i:Nat) (h:i<l.length):(Instr.index 9 (.string (za l)) (.int .i64 (i:Int))).run Tryz.prog w=.ok (.int .u8 ((l[i]).toNat:Int)) w:=by
 rw [run_index_string (P:=Tryz.prog) (w:=w) 9 (za l) .i64 _ Tryz.underlying9,dif_pos ⟨by omega,by rw [zU];omega⟩]
 simp only [Int.toNat_natCast]
 rfl
theorem YU {a:Nat × Nat} {c k:Nat} (h:a=(c,k)):(Ending.returned (.tuple #[.int .u8 (c:Int),.int .i64 (k:Int)]):Ending)=.returned (.tuple #[.int .u8 (a.1:Int),.int .i64 (a.2:Int)]):=by rw [h]
theorem XN {x:UInt8} {r:List UInt8} (h:x.toNat<32∨126<x.toNat):y5 (x::r)=(0,0):=by
 show (if _ then _ else _)=_;rw [if_pos h]
theorem XO {x:UInt8} {r:List UInt8} (h:¬ (x.toNat<32∨126<x.toNat)) (h2:x.toNat≠92):y5 (x::r)=(x.toNat,1):=by
 show (if _ then _ else _)=_;rw [if_neg h,if_pos h2]
theorem XP {x:UInt8} (h:¬ (x.toNat<32∨126<x.toNat)) (h2:x.toNat=92):y5 [x]=(0,0):=by
 show (if _ then _ else _)=_;rw [if_neg h,if_neg (by omega)]
def VX (m:Nat):Nat × Nat:=if m=92 then (92,2) else if m=34 then (34,2) else if m=110 then (10,2) else (0,0)
theorem XQ {x y:UInt8} {t:List UInt8} (h:¬ (x.toNat<32∨126<x.toNat)) (h2:x.toNat=92):y5 (x::y::t)=VX y.toNat:=by
 show (if _ then _ else _)=_;rw [if_neg h,if_neg (by omega)];rfl
def xh:List Nat:=[92,34,110]
def VN:List Nat:=[92,34,10]
theorem VO {m i:Nat} (hi:i<3) (h:∀j (hj:j<3),j<i→(xh[j]'hj)≠m) (he:(xh[i]'hi)=m):VX m=((VN[i]'hi),2):=by
 have e:i=0∨i=1∨i=2:=by omega
 rcases e with rfl | rfl | rfl
 ·rw [←he];rfl
 ·rw [←he];rfl
 ·rw [←he];rfl
theorem Vt {m:Nat} (h:∀j (hj:j<3),(xh[j]'hj)≠m):VX m=(0,0):=by
 have x:92≠m:=h 0 (by decide)
 have o:34≠m:=h 1 (by decide)
 have e:110≠m:=h 2 (by decide)
 unfold VX
 rw [if_neg (by omega),if_neg (by omega),if_neg (by omega)]
theorem vX (w:World) (i:Nat) (h:i<3):(Instr.index 229 (.agg #[.int .u8 92,.int .u8 92,.int .u8 34,.int .u8 34,.int .u8 10,.int .u8 110]) (.int .i64 (i:Int))).run Tryz.prog w=.ok (.agg #[.int .u8 ((VN[i]'h:Nat):Int),.int .u8 ((xh[i]'h:Nat):Int)]) w:=by
 have e:i=0∨i=1∨i=2:=by omega
 rcases e with rfl | rfl | rfl
 all_goals rfl
theorem xi (x:UInt8) (r:List UInt8) (w:World) (hl:r.length≤9223372036854775000) (ht:Zh w) :
  Calls Tryz.prog 175 #[.string (za (x::r))] w fun e w'=>e=.returned (.tuple #[.int .u8 (y5 (x::r)).1,.int .i64 (y5 (x::r)).2])∧Below w.heap.size w w':=by
 have T:=fun wx=>xg wx (x::r) 0 (by simp)
 rw [show ((0:Nat):Int)=0 from rfl,show (x::r)[0]=x from rfl] at T
 have z:(za (x::r)).size=r.length+1:=rfl;obtain ⟨n,o⟩:∃n,n=x.toNat:=⟨_,rfl⟩;have O:n<256:=by rw [o];exact UInt8.toNat_lt x
 rw [←o] at T;obtain ⟨S,I⟩:∃S,S=za (x::r):=⟨_,rfl⟩;rw [←I] at T z ⊢;have U:=ht.escs 0 (by decide)
 have e1:=ht.escs 1 (by decide)
 have Z:=ht.escs 2 (by decide)
 have V:=ht.escs 3 (by decide)
 have e4:=ht.escs 4 (by decide)
 have W:=ht.escs 5 (by decide)
 simp only [List.getElem_cons_zero,List.getElem_cons_succ] at U e1 Z V e4 W;clear ht
 by_cases hbad:n<32∨126<n
 ·have A:Hid (y5 (x::r)=(0,0)):=XN (by rw [←o];exact hbad)
  clear I o;rcases hbad with G | G
  ·go_enter Tryz.func175,Tryz.ntmps175
   go_wp2
   go_ret2
   exact ⟨YU A.out,Below.refl _ _⟩
  ·go_enter Tryz.func175,Tryz.ntmps175
   go_wp2
   go_ret2
   exact ⟨YU A.out,Below.refl _ _⟩
 ·by_cases h92:n=92
  ·cases r with
   | nil =>
    have A:Hid (y5 [x]=(0,0)):=XP (by rw [←o];exact hbad) (by rw [←o];exact h92)
    have X:S.size=1:=z;clear I o hbad z;subst h92
    go_enter Tryz.func175,Tryz.ntmps175
    go_wp2
    go_ret2
    exact ⟨YU A.out,Below.refl _ _⟩
   | cons y t =>
    have h1:=fun wx=>xg wx (x::y::t) 1 (by simp)
    rw [show ((1:Nat):Int)=1 from rfl,show (x::y::t)[1]=y from rfl] at h1
    obtain ⟨m,M⟩:∃m,m=y.toNat:=⟨_,rfl⟩;have N:m<256:=by rw [M];exact UInt8.toNat_lt y
    rw [←M,←I] at h1;have J:Hid (y5 (x::y::t)=VX m):=show _=_ by rw [M];exact XQ (by rw [←o];exact hbad) (by rw [←o];exact h92)
    have Y:S.size=t.length+2:=z;have aa:((t.length:Int)+2==1)=false:=by rw [beq_eq_false_iff_ne];omega
    have ab:t.length+1≤9223372036854775000:=by simpa using hl
    clear I o hbad z M hl;subst h92
    go_enter Tryz.func175,Tryz.ntmps175
    go_wp2
    clear U e1 Z V e4 W
    go_loopw [26] (fun v wr=>∃i:Nat,i≤3∧v=.int .i64 i∧(∀j (hj:j<3),j<i→(xh[j]'hj)≠m)∧Below w.heap.size w wr) (fun v _=>3-(intOf v).toNat)
    case atStart=>exact ⟨0,Nat.zero_le _,rfl,fun j _ h=>by omega,Below.refl _ _⟩
    case round =>
     obtain ⟨i,hi,rfl,E,H⟩:=hrel;have R:Hid (∀j (hj:j<3),j<i→(xh[j]'hj)≠m):=E;have Q:Hid (Below w.heap.size w wr):=H;have D:=H.size;clear E H
     by_cases hlt:i<3
     ·have K:=fun wx=>vX wx i hlt
      obtain ⟨a,L⟩:∃a,a=VN[i]'hlt:=⟨_,rfl⟩;obtain ⟨b,G⟩:∃b,b=xh[i]'hlt:=⟨_,rfl⟩;rw [←L,←G] at K
      by_cases he:b=m
      ·have A:Hid (y5 (x::y::t)=(a,2)):=show _=_ by rw [J.out,L];exact VO hlt R.out (by rw [←G];exact he)
       subst he;clear L G;go_wp2
       go_quiet (fail)
       go_wp2
       go_ret2
       refine ⟨YU A.out,?_⟩;exact (Q.out.alloc D _).trans ⟨rfl,rfl,rfl,Nat.le_refl _,fun _ _=>rfl⟩
      ·have af:((b:Int)==(m:Int))=false:=by rw [beq_eq_false_iff_ne];omega
       have HE:Hid ((xh[i]'hlt)≠m):=show (xh[i]'hlt)≠m by rw [←G];exact he
       clear L G he;go_wp2
       go_quiet (fail)
       go_wp2
       refine ⟨⟨i+1,by omega,by go_num,fun j hj hji=>?_,(Q.out.alloc D _).trans ⟨rfl,rfl,rfl,Nat.le_refl _,fun _ _=>rfl⟩⟩,by simp [intOf];omega⟩
       by_cases h:j<i
       ·exact R.out j hj h
       ·obtain rfl:j=i:=by omega
        exact HE.out
     ·obtain rfl:i=3:=by omega
      have A:Hid (y5 (x::y::t)=(0,0)):=show _=_ by rw [J.out];exact Vt (fun j hj=>R.out j hj hj)
      go_wp2
      go_ret2
      exact ⟨YU A.out,Q.out⟩
  ·have A:Hid (y5 (x::r)=(n,1)):=show y5 (x::r)=(n,1) by rw [o];exact XO (by rw [←o];exact hbad) (by rw [←o];exact h92)
   have ae:32≤n:=by omega
   have ad:n≤126:=by omega
   clear I o hbad
   go_enter Tryz.func175,Tryz.ntmps175
   go_wp2
   go_ret2
   exact ⟨YU A.out,Below.refl _ _⟩
def zY:Nat→List UInt8→Nat→List UInt8→TR
 | 0,_,_,_=>⟨0,[],0,0,6⟩
 | _+1,_,_,[]=>⟨0,[],0,0,6⟩
 | f+1,meant,at0,x::r=>if x.toNat=34 then ⟨3,meant,0,at0+1,0⟩ else if (y5 (x::r)).2=0 then ⟨0,[],0,0,6⟩ else if meant.length=255 then ⟨0,[],0,0,5⟩
  else zY f (meant++[(y5 (x::r)).1.toUInt8]) (at0+(y5 (x::r)).2) ((x::r).drop (y5 (x::r)).2)
def ZR (l:List UInt8):TR:=zY l.length [] 1 (l.drop 1)
theorem vY (l:List UInt8):(y5 l).2≤l.length∧(y5 l).1<256:=by
 cases l with
 | nil=>exact ⟨Nat.le_refl _,by decide⟩
 | cons x r =>
  by_cases h:x.toNat<32∨126<x.toNat
  ·rw [XN h];simp
  ·by_cases h2:x.toNat=92
   ·cases r with
    | nil=>rw [XP h h2];simp
    | cons y t =>
     rw [XQ h h2]
     unfold VX
     split
     ·simp
     ·split
      ·simp
      ·split <;> simp
   ·rw [XO h h2]
    have:=UInt8.toNat_lt x
    simp;omega
abbrev ZT:Obj:=Obj.cells #[Value.int IntKind.i64 0,Value.string ⟨#[]⟩,Value.int IntKind.i64 0,Value.int IntKind.i64 0,Value.int IntKind.i64 0] 142
theorem Z3 {w w1:World} (hb:Below (w.heap.size+1) (w.alloc ZT) w1) :
  (∀o,w1.cell? ⟨w.heap.size,o,none⟩=(w.alloc ZT).cell? ⟨w.heap.size,o,none⟩)∧(∀o,w1.frozen? ⟨w.heap.size,o,none⟩=(w.alloc ZT).frozen? ⟨w.heap.size,o,none⟩) :=
 ⟨fun o=>hb.cell (p:=⟨w.heap.size,o,none⟩) (by simp),fun o=>hb.frozen (p:=⟨w.heap.size,o,none⟩) (by simp)⟩
theorem Zc {w w1:World} (h:Below w.heap.size w w1) (a b c d e:Value) :
  Below w.heap.size w (((((w1.setCell ⟨w.heap.size,0,none⟩ a).setCell ⟨w.heap.size,1,none⟩ b).setCell ⟨w.heap.size,2,none⟩ c).setCell ⟨w.heap.size,3,none⟩ d).setCell ⟨w.heap.size,4,none⟩ e) :=
 ((((h.setCell (p:=⟨w.heap.size,0,none⟩) (Nat.le_refl _) _).setCell (p:=⟨w.heap.size,1,none⟩) (Nat.le_refl _) _).setCell (p:=⟨w.heap.size,2,none⟩) (Nat.le_refl _) _).setCell (p:=⟨w.heap.size,3,none⟩) (Nat.le_refl _) _).setCell (p:=⟨w.heap.size,4,none⟩) (Nat.le_refl _) _
theorem vf {w w':World} {B C e n:Nat} {v:Value} {xs:List Value} (h:w.ownsRow B e 1 v n xs) (hb:Below C w w') (hC:w.heap.size≤C):w'.ownsRow B e 1 v n xs :=
 h.kept (row:=none) ⟨hb.os,hb.tape,hb.output,hb.size,fun k hk _=>hb.block k (by omega)⟩ (by cases h':v.ownBlock <;> simp)
theorem YH (l:List UInt8) (w:World) (hl:l.length≤140737488351232) (hl1:1≤l.length) (ht:Zh w) :
  Calls Tryz.prog 163 #[.string (za l)] w fun e w'=>e=.returned (zT (ZR l))∧Below w.heap.size w w':=by
 have HT:Hid (Zh w):=ht;have aA:(za l).size=l.length:=rfl;have hA:Below w.heap.size w (w.alloc ZT):=(Below.refl w.heap.size w).alloc (Nat.le_refl _) _;have HA:Hid (Below w.heap.size w (w.alloc ZT)):=hA;clear ht hA
 go_enter Tryz.func163,Tryz.ntmps163
 go_wp2
 go_loopw [5,6] (fun vm va wr=>∃(f at0:Nat) (o:List UInt8),va=.int .i64 at0∧at0≤l.length∧l.length≤at0+f∧o.length≤255∧ZR l=zY f o at0 (l.drop at0) ∧
   wr.ownsRow (w.heap.size+1) 5 1 vm o.length (Lib.byteCells o)∧Below (w.heap.size+1) (w.alloc ZT) wr) (fun _ a _=>l.length-(intOf a).toNat)
 case atStart=>exact ⟨l.length,1,[],rfl,hl1,by omega,by simp,rfl,World.ownsRow_nil _ _ _ _,Below.refl _ _⟩
 case round =>
  obtain ⟨f,at0,o,rfl,az,aB,am,ad,R,J⟩:=hrel;have ae:Hid (ZR l=zY f o at0 (l.drop at0)):=ad;have ak:Hid (Below (w.heap.size+1) (w.alloc ZT) wr):=J;have HB:Hid (Below w.heap.size w wr):=HA.out.trans (J.mono (by omega))
  have Q:=J.size;rw [World.size_alloc] at Q;obtain ⟨A,Z⟩:=Z3 J;have HO:Hid (wr.ownsRow (w.heap.size+1) 5 1 u5 o.length (Lib.byteCells o)):=R;clear ad J R
  by_cases hlt:at0<l.length
  ·obtain ⟨x,r,D⟩:∃x r,l.drop at0=x::r:=⟨l[at0],l.drop (at0+1),List.drop_eq_getElem_cons hlt⟩
   have ai:l[at0]=x:=by
    have h:=List.drop_eq_getElem_cons hlt;rw [D] at h;exact (List.cons.inj h).1.symm
   have S:=fun wx=>xg wx l at0 hlt
   rw [ai] at S;obtain ⟨n,hn⟩:∃n,n=x.toNat:=⟨_,rfl⟩;rw [←hn] at S;have ao:n<256:=by rw [hn];exact UInt8.toNat_lt x
   obtain ⟨X,rfl⟩:∃X,f=X+1:=⟨f-1,by omega⟩
   have ag:Hid (ZR l=if n=34 then ⟨3,o,0,at0+1,0⟩ else if (y5 (x::r)).2=0 then ⟨0,[],0,0,6⟩ else if o.length=255 then ⟨0,[],0,0,5⟩ else zY X (o++[(y5 (x::r)).1.toUInt8]) (at0+(y5 (x::r)).2) ((x::r).drop (y5 (x::r)).2)):=show _=_ by
    rw [ae.out,D,hn];rfl
   have ar:=fun wx=>yi wx l at0 (by omega)
   rw [D] at ar;have af:(x::r).length=l.length-at0:=by rw [←D,List.length_drop]
   have au:Hid (l.drop at0=x::r):=D;clear ai hn D
   by_cases h34:n=34
   ·have M:Hid (ZR l=⟨3,o,0,at0+1,0⟩):=show _=_ by rw [ag.out,if_pos h34]
    subst h34;obtain ⟨y,I,rfl,H,-,-,-⟩:=XI HO.out;have aC:=vN wr y o I H;clear H;go_wp2
    refine bodyPost_ret (v:=zT ⟨3,o,0,at0+1,0⟩) (by simp [results,Tryz.results163,go_sem,zT,A]) rfl ⟨by rw [M.out],?_⟩
    exact Zc HB.out _ _ _ _ _
   ·have ay:((n:Int)==34)=false:=by rw [beq_eq_false_iff_ne];omega
    have G:=vY (x::r);have cb:=xi x r wr (by simp at af;omega) (HT.out.below HB.out (Nat.le_refl _))
    obtain ⟨c,L,W⟩:∃c L,y5 (x::r)=(c,L):=⟨_,_,rfl⟩;rw [W] at cb G;simp only at G
    have T:Hid (ZR l=if L=0 then ⟨0,[],0,0,6⟩ else if o.length=255 then ⟨0,[],0,0,5⟩ else zY X (o++[c.toUInt8]) (at0+L) ((x::r).drop L)):=show _=_ by
     rw [ag.out,if_neg h34,W]
    clear W h34;go_wp2_with fail
    refine cb.mono ?_;clear cb A Z;rintro e w2 ⟨rfl,N⟩;have aw:=N.size;have O:Below (w.heap.size+1) (w.alloc ZT) w2:=ak.out.trans (N.mono Q);obtain ⟨A,Z⟩:=Z3 O;have ap:Hid (Below (w.heap.size+1) (w.alloc ZT) w2):=O;have aa:Hid (Below w.heap.size w w2):=HA.out.trans (O.mono (by omega))
    have U:Hid (w2.ownsRow (w.heap.size+1) 5 1 u5 o.length (Lib.byteCells o)):=vf HO.out N (Nat.le_refl _);clear N O HO ak
    by_cases hs0:L=0
    ·have M:Hid (ZR l=⟨0,[],0,0,6⟩):=show _=_ by rw [T.out,if_pos hs0]
     subst hs0;go_wp2
     refine bodyPost_ret (v:=zT ⟨0,[],0,0,6⟩) (by simp [results,Tryz.results163,go_sem,zT,A]) rfl ⟨by rw [M.out],?_⟩
     exact Zc aa.out _ _ _ _ _
    ·have ax:((L:Int)==0)=false:=by rw [beq_eq_false_iff_ne];omega
     obtain ⟨y,I,rfl,-,-,-,-⟩:=XI U.out;obtain ⟨Y,z⟩:∃Y,Y=o.length:=⟨_,rfl⟩;have aj:Hid (Y=o.length):=z;rw [←z]
     by_cases h255:Y=255
     ·have M:Hid (ZR l=⟨0,[],0,0,5⟩):=show _=_ by rw [T.out,if_neg hs0,if_pos (by rw [←z];exact h255)]
      clear z;subst h255;go_wp2
      refine bodyPost_ret (v:=zT ⟨0,[],0,0,5⟩) (by simp [results,Tryz.results163,go_sem,zT,A]) rfl ⟨by rw [M.out],?_⟩
      exact Zc aa.out _ _ _ _ _
     ·have aq:((Y:Int)==255)=false:=by rw [beq_eq_false_iff_ne];omega
      have M:Hid (ZR l=zY X (o++[c.toUInt8]) (at0+L) (l.drop (at0+L))):=show _=_ by
       rw [T.out,if_neg hs0,if_neg (by rw [←z];exact h255),←au.out,List.drop_drop]
      have ab:Hid (w2.ownsRow (w.heap.size+1) 5 1 (.slice y Y I) o.length (Lib.byteCells o)):=by rw [z];exact U.out
      have V:=G.2;have ah:=G.1;rw [af] at ah;have av:o.length≤255:=am;clear z U G
      go_wp2_with (at_builtin;refine Y9 rfl _ _ rfl (w.heap.size+1) _ o rfl (ab.out.alloc _) _ [c.toUInt8] rfl (xC V (by simp)) (by simp;omega) (by simp;omega) ?_)
      intro v3 w3 E K;have an:Hid (Below (w.heap.size+1) (w.alloc ZT) w3):=(ap.out.alloc (by omega) _).grown K (by simp;omega) (fun q hq=>(ab.out.lt q hq).1)
      have al:Hid (w3.ownsRow (w.heap.size+1) 5 1 v3 (o++[c.toUInt8]).length (Lib.byteCells (o++[c.toUInt8]))):=by
       rw [show (o++[c.toUInt8]).length=o.length+1 by simp];exact E
      clear K E;go_wp2
      refine ⟨⟨X,at0+L,o++[c.toUInt8],by go_num,by omega,by omega,?_,M.out,al.out,an.out⟩,by simp [intOf];omega⟩
      rw [List.length_append,List.length_singleton,←aj.out]
      have:=aj.out
      omega
  ·obtain rfl:at0=l.length:=by omega
   have M:Hid (ZR l=⟨0,[],0,0,6⟩):=show _=_ by
    rw [ae.out,List.drop_length];cases f <;> rfl
   go_wp2
   refine bodyPost_ret (v:=zT ⟨0,[],0,0,6⟩) (by simp [results,Tryz.results163,go_sem,zT,A]) rfl ⟨by rw [M.out],?_⟩
   exact Zc HB.out _ _ _ _ _
def Zn (l:List UInt8):TR :=
 match l with
 | []=>⟨0,[],0,0,0⟩
 | x::_=>if ZI x.toNat=true then Z2 l else if z8 x.toNat=true then Yj l else if x.toNat=34 then ZR l else yn l
theorem Vu {x:UInt8} {r:List UInt8} (h:z8 x.toNat=true):digL (x::r)≠[]:=by
 unfold digL;simp [h]
theorem vg (l:List UInt8) (w:World) (hl:l.length≤140737488351232) (ht:Zh w) :
  Calls Tryz.prog 141 #[.string (za l)] w fun e w'=>e=.returned (zT (Zn l))∧Below w.heap.size w w':=by
 have V:Below w.heap.size w (w.alloc ZT):=(Below.refl w.heap.size w).alloc (Nat.le_refl _) _;have O:Hid (Below w.heap.size w (w.alloc ZT)):=V;have Q:Hid (Zh (w.alloc ZT)):=ht.alloc _;clear ht V;cases l with
 | nil =>
  go_enter Tryz.func141,Tryz.ntmps141
  go_wp2
  refine bodyPost_ret (v:=zT ⟨0,[],0,0,0⟩) (by simp [results,Tryz.results141,go_sem,zT]) rfl ⟨rfl,?_⟩
  exact O.out
 | cons x r =>
  have J:=fun wx=>xg wx (x::r) 0 (by simp)
  rw [show ((0:Nat):Int)=0 from rfl,show (x::r)[0]=x from rfl] at J
  obtain ⟨n,N⟩:∃n,n=x.toNat:=⟨_,rfl⟩;rw [←N] at J;have G:n<256:=by rw [N];exact UInt8.toNat_lt x
  have I:Hid (Zn (x::r)=if ZI n=true then Z2 (x::r) else if z8 n=true then Yj (x::r) else if n=34 then ZR (x::r) else yn (x::r)):=show _=_ by rw [N];rfl
  have W:Hid (z8 n=true→digL (x::r)≠[]):=fun h=>Vu (by rw [←N];exact h)
  have Y:¬ (x::r)=[]:=by simp
  clear N
  go_enter Tryz.func141,Tryz.ntmps141
  have X:(x::r).length≤140737488351232:=hl;have H:Hid (∀(R:TR) (A:World),Below (w.alloc ZT).heap.size (w.alloc ZT) A→Below (w.heap.size+1) (w.alloc ZT) A):=fun R A h=>by rw [World.size_alloc] at h;exact h
  have T:=ZQ n G (w.alloc ZT);go_wp2_with fail
  refine T.mono ?_;clear T;rintro e A ⟨rfl,rfl⟩;cases h1:ZI n with
  | true =>
   obtain ⟨R,D⟩:∃R,R=Z2 (x::r):=⟨_,rfl⟩;have z:=YF (x::r) (w.alloc ZT) (by omega) Q.out
   rw [←D] at z;have L:Hid (Zn (x::r)=R):=show _=_ by rw [I.out,if_pos h1,D]
   unfold zT at z
   clear D;go_wp2_with fail
   refine z.mono ?_;clear z;rintro e A ⟨rfl,y⟩;have o:=H.out R A y;obtain ⟨E,K⟩:=Z3 o;have M:Hid (Below w.heap.size w A):=O.out.trans (o.mono (by omega))
   clear y o;go_wp2
   refine bodyPost_ret (v:=zT R) (by simp [results,Tryz.results141,go_sem,zT,E]) rfl ⟨by rw [L.out],?_⟩
   exact Zc M.out _ _ _ _ _
  | false =>
   have S:=yl n G (w.alloc ZT);go_wp2_with fail
   refine S.mono ?_;clear S;rintro e A ⟨rfl,rfl⟩;cases h2:z8 n with
   | true =>
    obtain ⟨R,D⟩:∃R,R=Yj (x::r):=⟨_,rfl⟩;have z:=y4 (x::r) (w.alloc ZT) (by omega) (W.out h2) Q.out
    rw [←D] at z;have L:Hid (Zn (x::r)=R):=show _=_ by rw [I.out,if_neg (by rw [h1];simp),if_pos h2,D]
    unfold zT at z
    clear D;go_wp2_with fail
    refine z.mono ?_;clear z;rintro e A ⟨rfl,y⟩;have o:=H.out R A y;obtain ⟨E,K⟩:=Z3 o;have M:Hid (Below w.heap.size w A):=O.out.trans (o.mono (by omega))
    clear y o;go_wp2
    refine bodyPost_ret (v:=zT R) (by simp [results,Tryz.results141,go_sem,zT,E]) rfl ⟨by rw [L.out],?_⟩
    exact Zc M.out _ _ _ _ _
   | false =>
    by_cases h34:n=34
    ·obtain ⟨R,D⟩:∃R,R=ZR (x::r):=⟨_,rfl⟩
     have z:=YH (x::r) (w.alloc ZT) (by omega) (by simp) Q.out
     rw [←D] at z;have L:Hid (Zn (x::r)=R):=show _=_ by rw [I.out,if_neg (by rw [h1];simp),if_neg (by rw [h2];simp),if_pos h34,D]
     subst h34
     unfold zT at z
     clear D;go_wp2_with fail
     refine z.mono ?_;clear z;rintro e A ⟨rfl,y⟩;have o:=H.out R A y;obtain ⟨E,K⟩:=Z3 o;have M:Hid (Below w.heap.size w A):=O.out.trans (o.mono (by omega))
     clear y o;go_wp2
     refine bodyPost_ret (v:=zT R) (by simp [results,Tryz.results141,go_sem,zT,E]) rfl ⟨by rw [L.out],?_⟩
     exact Zc M.out _ _ _ _ _
    ·obtain ⟨R,D⟩:∃R,R=yn (x::r):=⟨_,rfl⟩
     have U:((n:Int)==34)=false:=by rw [beq_eq_false_iff_ne];omega
     have z:=YG (x::r) (w.alloc ZT) Q.out;rw [←D] at z;have L:Hid (Zn (x::r)=R):=show _=_ by rw [I.out,if_neg (by rw [h1];simp),if_neg (by rw [h2];simp),if_neg h34,D]
     unfold zT at z
     clear D;go_wp2_with fail
     refine z.mono ?_;clear z;rintro e A ⟨rfl,y⟩;have o:=H.out R A y;obtain ⟨E,K⟩:=Z3 o;have M:Hid (Below w.heap.size w A):=O.out.trans (o.mono (by omega))
     clear y o;go_wp2
     refine bodyPost_ret (v:=zT R) (by simp [results,Tryz.results141,go_sem,zT,E]) rfl ⟨by rw [L.out],?_⟩
     exact Zc M.out _ _ _ _ _
end Go.Proofs.YtmbofhpmockmbaaGreatDoor

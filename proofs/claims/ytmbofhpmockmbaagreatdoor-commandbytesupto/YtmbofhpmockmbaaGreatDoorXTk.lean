import Derived.Test.YtmbofhpmockmbaaGreatDoorXGap
import Derived.Test.YtmbofhpmockmbaaGreatDoorWAll
import Derived.Deep.MidRow
import Derived.LoopN
namespace Go.Proofs.YtmbofhpmockmbaaGreatDoor
open Go.RowKit
set_option maxHeartbeats 16000000
set_option maxRecDepth 100000
structure TR where
 k:Nat
 s:List UInt8
 n:Nat
 sz:Nat
 e:Nat
def zZ (r:TR):Value:=.tuple #[.agg #[.int .i64 r.k,.string (za r.s),.int .i64 r.n,.int .i64 0,.int .i64 0],.int .i64 r.sz,.int .i64 r.e]
def ZX (l:List UInt8):List UInt8:=l.takeWhile fun c=>YV c.toNat
def yo (l:List UInt8):TR:=if yh (ZX l)=true then ⟨5,ZX l,0,(ZX l).length,0⟩ else if 20<(ZX l).length then ⟨0,[],0,0,5⟩ else ⟨1,ZX l,0,(ZX l).length,0⟩
theorem XP (p:UInt8→Bool) (l:List UInt8):l.take (l.takeWhile p).length=l.takeWhile p:=by
 induction l with
 | nil=>rfl
 | cons x l ih =>
  by_cases h:p x=true
  ·simp [h,ih]
  ·simp [h]
theorem Y0 (l:List UInt8):(ZX l).length≤l.length:=(List.takeWhile_sublist _).length_le
theorem Zt.alloc {w:World} (h:Zt w) (o:Obj):Zt (w.alloc o) :=
 ⟨fun j hj=>Lib.cell?_alloc_some o (h.words j hj),fun j hj=>Lib.cell?_alloc_some o (h.signs j hj),fun j hj=>Lib.cell?_alloc_some o (h.escs j hj),by obtain ⟨a,b,c⟩:=h.range;exact ⟨a,b,Lib.cell?_alloc_some o c⟩⟩
theorem Zt.below {w w':World} {B:Nat} (h:Zt w) (hb:Below B w w') (hB:w.heap.size≤B):Zt w':=by
 have e:∀{p:Addr} {v:Value},w.cell? p=some v→w'.cell? p=some v:=fun {p v} hp=>by
  rw [hb.cell (Nat.lt_of_lt_of_le (World.block_lt_of_cell? w _ hp) hB)];exact hp
 exact ⟨fun j hj=>e (h.words j hj),fun j hj=>e (h.signs j hj),fun j hj=>e (h.escs j hj),by obtain ⟨a,b,c⟩:=h.range;exact ⟨a,b,e c⟩⟩
theorem xx (l:List UInt8) (w:World) (hl:l.length≤9223372036854775000) (ht:Zt w) :
  Calls Tryz.prog 160 #[.string (za l)] w fun e w'=>e=.returned (zZ (yo l))∧Below w.heap.size w w':=by
 have J:Hid (Zt w):=ht;have o:=Y0 l;obtain ⟨m,z⟩:∃m,m=(ZX l).length:=⟨_,rfl⟩;rw [←z] at o;have D:=fun wx=>vt wx l m o
 rw [show l.take m=ZX l by rw [z];exact XP _ l] at D
 have A:Hid (m=(ZX l).length):=z;clear ht
 have K:Hid (∀wx,Calls Tryz.prog 152 #[.string (za l),.func (.func 173) #[] #[]] wx fun e w'=>e=.returned (.int .i64 m)∧wx=w'):=fun wx=>by
  rw [z];exact uu l wx hl
 have H:Hid (∀wx,Zt wx→Calls Tryz.prog 174 #[.string (za (ZX l))] wx fun e w'=>e=.returned (.bool (yh (ZX l)))∧wx=w'):=fun wx h=>uw _ wx h
 clear z;have L:=(Below.refl w.heap.size w).alloc (Nat.le_refl _);obtain ⟨x,G⟩:∃x,x=ZX l:=⟨_,rfl⟩;rw [←G] at D H A;have E:Hid (x=ZX l):=G;clear G
 go_enter Tryz.func160,Tryz.ntmps160
 go_wp2_with fail
 refine (K.out _).mono ?_;rintro e I ⟨rfl,rfl⟩;go_wp2_with fail
 refine (H.out _ (J.out.alloc _)).mono ?_;rintro e I ⟨rfl,rfl⟩;cases hq:yh x with
 | true =>
  have y:Hid (yo l=⟨5,x,0,m,0⟩):=by unfold yo;rw [←E.out,if_pos hq,←A.out];rfl
  go_wp2
  refine bodyPost_ret (v:=zZ ⟨5,x,0,m,0⟩) (by simp [results,Tryz.results160,go_sem,zZ]) rfl ⟨by rw [y.out],?_⟩
  exact (Below.refl w.heap.size w).alloc (Nat.le_refl _) _
 | false =>
  by_cases h20:20<m
  ·have y:Hid (yo l=⟨0,[],0,0,5⟩):=by unfold yo;rw [←E.out,if_neg (by rw [hq];simp),if_pos (by rw [←A.out];exact h20)];rfl
   go_wp2
   refine bodyPost_ret (v:=zZ ⟨0,[],0,0,5⟩) (by simp [results,Tryz.results160,go_sem,zZ]) rfl ⟨by rw [y.out],?_⟩
   exact (Below.refl w.heap.size w).alloc (Nat.le_refl _) _
  ·have y:Hid (yo l=⟨1,x,0,m,0⟩):=by unfold yo;rw [←E.out,if_neg (by rw [hq];simp),if_neg (by rw [←A.out];exact h20),←A.out];rfl
   go_wp2
   refine bodyPost_ret (v:=zZ ⟨1,x,0,m,0⟩) (by simp [results,Tryz.results160,go_sem,zZ]) rfl ⟨by rw [y.out],?_⟩
   exact (Below.refl w.heap.size w).alloc (Nat.le_refl _) _
def valA (acc:Nat):List UInt8→Nat
 | []=>acc
 | c::r=>valA (acc*10+(c.toNat-48)) r
theorem Va:∀(r:List UInt8) (acc:Nat),acc≤valA acc r
 | [],_=>Nat.le_refl _
 | c::r,acc=>Nat.le_trans (by omega) (Va r (acc*10+(c.toNat-48)))
theorem Xd (ds:List UInt8):∀(e:Nat),(∀c∈ds,Zh c.toNat=true)→e<18446744073709551616 →
  Lib.parseUint10 e ds=if valA e ds<18446744073709551616 then .ok (valA e ds) else .range:=by
 induction ds with
 | nil =>
  intro e _ y;rw [show valA e []=e from rfl,if_pos y]
  rfl
 | cons c r ih =>
  intro e h y;have o:=h c (List.mem_cons_self ..)
  unfold Zh at o
  rw [Bool.and_eq_true,decide_eq_true_eq,decide_eq_true_eq] at o;have z:=Va r (e*10+(c.toNat-48));rw [show valA e (c::r)=valA (e*10+(c.toNat-48)) r from rfl]
  unfold Lib.parseUint10
  rw [if_pos o]
  by_cases h1:1844674407370955162≤e
  ·rw [if_pos h1,if_neg (by omega)]
  ·rw [if_neg h1]
   by_cases h2:18446744073709551616≤e*10+(c.toNat-48)
   ·rw [if_pos h2,if_neg (by omega)]
   ·rw [if_neg h2]
    exact ih _ (fun d hd=>h d (List.mem_cons_of_mem _ hd)) (by omega)
theorem XQ {ds:List UInt8} (h:∀c∈ds,Zh c.toNat=true) (hne:ds≠[]) :
  Lib.atoiAll ds=if valA 0 ds<9223372036854775808 then .ok (valA 0 ds:Int) else .range:=by
 cases ds with
 | nil=>exact absurd rfl hne
 | cons c r =>
  have y:=h c (List.mem_cons_self ..)
  unfold Zh at y
  rw [Bool.and_eq_true,decide_eq_true_eq,decide_eq_true_eq] at y;have z:¬ (c.toNat=43∨c.toNat=45):=by omega
  have o:¬ c.toNat=45:=by omega
  have e:Lib.parseMag (c::r)=if valA 0 (c::r)<18446744073709551616 then .ok (valA 0 (c::r)) else .range:=by
   unfold Lib.parseMag;rw [if_neg (by simp)];exact Xd _ 0 h (by omega)
  generalize valA 0 (c::r)=v at e ⊢;have A:(if c.toNat=43∨c.toNat=45 then r else c::r)=c::r:=if_neg z
  unfold Lib.atoiAll
  simp only [A];rw [e]
  by_cases h3:v<18446744073709551616
  ·rw [if_pos h3]
   by_cases h4:v<9223372036854775808
   ·simp only
    rw [if_neg (by omega),if_neg (by omega),if_neg o,if_pos h4]
   ·simp only
    rw [if_pos ⟨o,by omega⟩,if_neg h4]
  ·rw [if_neg h3,if_neg (by omega)]
theorem Vb {p:UInt8→Bool}:∀(l:List UInt8) (c:UInt8),c∈l.takeWhile p→p c=true
 | [],c,h=>by simp at h
 | x::l,c,h=>by
  by_cases hx:p x=true
  ·rw [List.takeWhile_cons_of_pos hx] at h
   rcases List.mem_cons.1 h with rfl | h
   ·exact hx
   ·exact Vb l c h
  ·rw [List.takeWhile_cons_of_neg hx] at h
   simp at h
def digL (l:List UInt8):List UInt8:=l.takeWhile fun c=>Zh c.toNat
def Y1 (l:List UInt8):TR:=if valA 0 (digL l)<9223372036854775808 then ⟨2,[],valA 0 (digL l),(digL l).length,0⟩ else ⟨0,[],0,0,5⟩
theorem Vc (l:List UInt8):(digL l).length≤l.length:=(List.takeWhile_sublist _).length_le
theorem uA (l:List UInt8):∀c∈digL l,Zh c.toNat=true:=fun c hc=>Vb (p:=fun c=>Zh c.toNat) l c hc
theorem YE (l:List UInt8) (w:World) (hl:l.length≤140737488351232) (hne:digL l≠[]) (ht:Zt w) :
  Calls Tryz.prog 162 #[.string (za l)] w fun e w'=>e=.returned (zZ (Y1 l))∧Below w.heap.size w w':=by
 have Z:Hid (Zt w):=ht;have D:=Vc l;obtain ⟨m,H⟩:∃m,m=(digL l).length:=⟨_,rfl⟩;rw [←H] at D;have K:=fun wx=>vt wx l m D
 rw [show l.take m=digL l by rw [H];exact XP _ l] at K
 have M:Hid (m=(digL l).length):=H;have Y:m≤140737488351232:=by omega
 clear ht
 have HN:Hid (∀wx,Calls Tryz.prog 152 #[.string (za l),.func (.func 161) #[] #[]] wx fun e w'=>e=.returned (.int .i64 m)∧wx=w'):=fun wx=>by
  rw [H];exact VE l wx (by omega)
 have z:=XQ (uA l) hne;obtain ⟨x,Q⟩:∃x,x=digL l:=⟨_,rfl⟩;rw [←Q] at K M z;obtain ⟨v,R⟩:∃v,v=valA 0 x:=⟨_,rfl⟩;rw [←R] at z;have V:Hid (x=digL l):=Q;have W:Hid (v=valA 0 x):=R;have L:Hid (Lib.atoiAll x=if v<9223372036854775808 then .ok (v:Int) else .range):=z
 clear Q R z H
 go_enter Tryz.func162,Tryz.ntmps162
 go_wp2_with fail
 refine (HN.out _).mono ?_;rintro e w1 ⟨rfl,rfl⟩
 by_cases h63:v<9223372036854775808
 ·have E:=fun wx=>Tryz.strconv_Atoi_ok (za x) (by rw [zS,←M.out];omega) v (by show Lib.atoiAll x=_;rw [L.out,if_pos h63]) wx
  have O:Hid (Y1 l=⟨2,[],v,m,0⟩):=by unfold Y1;rw [←V.out,←W.out,if_pos h63,←M.out];rfl
  go_wp2_with fail
  refine (E _).mono ?_;clear E;rintro e w1 ⟨rfl,J⟩
  have y:Below (w.heap.size+1) (w.alloc (Obj.cells #[Value.int IntKind.i64 0,Value.string ⟨#[]⟩,Value.int IntKind.i64 0,Value.int IntKind.i64 0,Value.int IntKind.i64 0] 142)) w1:=by
   rcases J with rfl | ⟨t,rfl⟩
   ·exact Below.refl _ _
   ·have G:=Lib.bytesWorld_below (w.alloc (Obj.cells #[Value.int IntKind.i64 0,Value.string ⟨#[]⟩,Value.int IntKind.i64 0,Value.int IntKind.i64 0,Value.int IntKind.i64 0] 142)) 5 t
    rw [World.size_alloc] at G;exact G
  clear J
  obtain ⟨A,N⟩:(∀o,w1.cell? ⟨w.heap.size,o,none⟩=(w.alloc (Obj.cells #[Value.int IntKind.i64 0,Value.string ⟨#[]⟩,Value.int IntKind.i64 0,Value.int IntKind.i64 0,Value.int IntKind.i64 0] 142)).cell? ⟨w.heap.size,o,none⟩)∧(∀o,w1.frozen? ⟨w.heap.size,o,none⟩=(w.alloc (Obj.cells #[Value.int IntKind.i64 0,Value.string ⟨#[]⟩,Value.int IntKind.i64 0,Value.int IntKind.i64 0,Value.int IntKind.i64 0] 142)).frozen? ⟨w.heap.size,o,none⟩) :=
   ⟨fun o=>y.cell (p:=⟨w.heap.size,o,none⟩) (by simp),fun o=>y.frozen (p:=⟨w.heap.size,o,none⟩) (by simp)⟩
  have T:Hid (Below w.heap.size w w1):=((Below.refl w.heap.size w).alloc (Nat.le_refl _) _).trans (y.mono (by omega))
  clear y;go_wp2
  refine bodyPost_ret (v:=zZ ⟨2,[],v,m,0⟩) (by simp [results,Tryz.results162,go_sem,zZ,A]) rfl ⟨by rw [O.out],?_⟩
  exact ((((T.out.setCell (p:=⟨w.heap.size,0,none⟩) (Nat.le_refl _) _).setCell (p:=⟨w.heap.size,1,none⟩) (Nat.le_refl _) _).setCell (p:=⟨w.heap.size,2,none⟩) (Nat.le_refl _) _).setCell (p:=⟨w.heap.size,3,none⟩) (Nat.le_refl _) _).setCell (p:=⟨w.heap.size,4,none⟩) (Nat.le_refl _) _
 ·obtain ⟨X,U,I⟩:=Z.out.range
  have E:=Tryz.strconv_Atoi_range (za x) (by rw [zS,←M.out];omega) (by show Lib.atoiAll x=_;rw [L.out,if_neg h63]) (.iface X U) (w.alloc (Obj.cells #[Value.int IntKind.i64 0,Value.string ⟨#[]⟩,Value.int IntKind.i64 0,Value.int IntKind.i64 0,Value.int IntKind.i64 0] 142)) (Lib.cell?_alloc_some _ I) (.inr ⟨X,U,rfl⟩)
  have O:Hid (Y1 l=⟨0,[],0,0,5⟩):=by unfold Y1;rw [←V.out,←W.out,if_neg h63];rfl
  go_wp2_with fail
  refine E.mono ?_;clear E;rintro e w1 ⟨NN,rfl,-,-,y⟩;rw [World.size_alloc] at y
  obtain ⟨A,N⟩:(∀o,w1.cell? ⟨w.heap.size,o,none⟩=(w.alloc (Obj.cells #[Value.int IntKind.i64 0,Value.string ⟨#[]⟩,Value.int IntKind.i64 0,Value.int IntKind.i64 0,Value.int IntKind.i64 0] 142)).cell? ⟨w.heap.size,o,none⟩)∧(∀o,w1.frozen? ⟨w.heap.size,o,none⟩=(w.alloc (Obj.cells #[Value.int IntKind.i64 0,Value.string ⟨#[]⟩,Value.int IntKind.i64 0,Value.int IntKind.i64 0,Value.int IntKind.i64 0] 142)).frozen? ⟨w.heap.size,o,none⟩) :=
   ⟨fun o=>y.cell (p:=⟨w.heap.size,o,none⟩) (by simp),fun o=>y.frozen (p:=⟨w.heap.size,o,none⟩) (by simp)⟩
  have T:Hid (Below w.heap.size w w1):=((Below.refl w.heap.size w).alloc (Nat.le_refl _) _).trans (y.mono (by omega))
  clear y I;go_wp2
  refine bodyPost_ret (v:=zZ ⟨0,[],0,0,5⟩) (by simp [results,Tryz.results162,go_sem,zZ,A]) rfl ⟨by rw [O.out],?_⟩
  exact ((((T.out.setCell (p:=⟨w.heap.size,0,none⟩) (Nat.le_refl _) _).setCell (p:=⟨w.heap.size,1,none⟩) (Nat.le_refl _) _).setCell (p:=⟨w.heap.size,2,none⟩) (Nat.le_refl _) _).setCell (p:=⟨w.heap.size,3,none⟩) (Nat.le_refl _) _).setCell (p:=⟨w.heap.size,4,none⟩) (Nat.le_refl _) _
def longer (l best x:List UInt8):List UInt8:=if best.length<x.length∧Lib.hasPrefix l x=true then x else best
def bestS (l:List UInt8) (n:Nat):List UInt8:=(signsL.take n).foldl (longer l) []
def yN (l:List UInt8):TR:=if bestS l 25=[] then ⟨0,[],0,0,6⟩ else ⟨4,bestS l 25,0,(bestS l 25).length,0⟩
theorem vv (l:List UInt8) (n:Nat) (h:n<signsL.length):bestS l (n+1)=longer l (bestS l n) signsL[n]:=by
 unfold bestS;rw [List.take_succ_eq_append_getElem h,List.foldl_append];rfl
theorem xO (l:List UInt8) (n:Nat):(bestS l n).length≤2:=by
 have A:∀(e:List (List UInt8)) (b:List UInt8),(∀x∈e,x.length≤2)→b.length≤2→(e.foldl (longer l) b).length≤2:=by
  intro e
  induction e with
  | nil=>intro b _ z;exact z
  | cons x e ih =>
   intro b o z;refine ih _ (fun y hy=>o y (List.mem_cons_of_mem _ hy)) ?_
   unfold longer
   split
   ·exact o x (List.mem_cons_self ..)
   ·exact z
 exact A _ _ (fun x o=>by
  have:∀x∈signsL,x.length≤2:=by decide
  exact this x (List.mem_of_mem_take o)) (by simp)
def Yl:List Value:=signsL.map fun x=>.string (za x)
def signsV:Value:=.agg Yl.toArray
theorem XR {w:World} (ht:Zt w):w.rangeAt 8 0 Yl:=fun j v hv=>by
 unfold Yl at hv
 rw [List.getElem?_map] at hv;rcases Nat.lt_or_ge j signsL.length with h | h
 ·rw [List.getElem?_eq_getElem h] at hv
  simp only [Option.map_some,Option.some.injEq] at hv;rw [Nat.zero_add,ht.signs j h,hv]
 ·rw [List.getElem?_eq_none h] at hv;cases hv
theorem vw:(Tryz.prog.info? 225).map (·.size)=some Yl.length:=by kernel_rfl
theorem xy (l:List UInt8) (w:World) (ht:Zt w) :
  Calls Tryz.prog 164 #[.string (za l)] w fun e w'=>e=.returned (zZ (yN l))∧Below w.heap.size w w':=by
 have O:Hid (Zt w):=ht;clear ht
 go_enter Tryz.func164,Tryz.ntmps164
 go_wp2_with (refine wpList_load_mid rfl 225 _ rfl 8 0 rfl Yl _ (XR (O.out.alloc _)) Tryz.underlying225 rfl vw ?_)
 have Q:Hid (∀(wx:World) (i:Nat) (h:i<25),(Instr.index 225 signsV (.int .i64 (i:Int))).run Tryz.prog wx=.ok (.string (za (signsL[i]'h))) wx):=fun wx i h=>VH wx i h
 rw [show Value.agg Yl.toArray=signsV from rfl]
 generalize signsV=A at *
 go_loop [5,9] (fun vb v=>∃i:Nat,i≤25∧v=.int .i64 i∧vb=.string (za (bestS l i))) (fun _ v=>25-(intOf v).toNat)
 case atStart=>exact ⟨0,Nat.zero_le _,rfl,rfl⟩
 case round =>
  obtain ⟨i,U,rfl,rfl⟩:=hrel;have L:=xO l i;obtain ⟨b,K⟩:∃b,b=bestS l i:=⟨_,rfl⟩;rw [←K] at L ⊢;have H:Hid (b=bestS l i):=K;clear K
  by_cases hlt:i<25
  ·have z:=fun wx=>Q.out wx i hlt
   obtain ⟨x,G⟩:∃x,x=signsL[i]'hlt:=⟨_,rfl⟩;rw [←G] at z
   have R:x.length≤2:=by
    have:∀x∈signsL,x.length≤2:=by decide
    rw [G];exact this _ (List.getElem_mem _)
   have J:Hid (bestS l (i+1)=longer l b x):=show bestS l (i+1)=longer l b x by rw [vv l i hlt,H.out,G]
   have T:(za x).size=x.length:=rfl;have M:(za b).size=b.length:=rfl;clear G
   by_cases hlen:b.length<x.length
   ·have E:=fun wx=>Tryz.strings_HasPrefix (za l) (za x) wx
    cases hp:Lib.hasPrefix l x with
    | true =>
     have D:Lib.hasPrefix (za l).data.toList (za x).data.toList=true:=hp;rw [D] at E;have o:Hid (bestS l (i+1)=x):=show bestS l (i+1)=x by rw [J.out];unfold longer;rw [if_pos ⟨hlen,hp⟩]
     clear D;go_wp2_with (go_at_call 154;refine (E _).mono ?_;rintro e N ⟨rfl,rfl⟩)
     refine ⟨⟨i+1,by omega,by go_num,by rw [o.out]⟩,by simp [intOf];omega⟩
    | false =>
     have D:Lib.hasPrefix (za l).data.toList (za x).data.toList=false:=hp;rw [D] at E;have o:Hid (bestS l (i+1)=b):=show bestS l (i+1)=b by rw [J.out];unfold longer;rw [if_neg (fun h=>by rw [hp] at h;exact absurd h.2 (by decide))]
     clear D;go_wp2_with (go_at_call 154;refine (E _).mono ?_;rintro e N ⟨rfl,rfl⟩)
     refine ⟨⟨i+1,by omega,by go_num,by rw [o.out]⟩,by simp [intOf];omega⟩
   ·have o:Hid (bestS l (i+1)=b):=show bestS l (i+1)=b by rw [J.out];unfold longer;rw [if_neg (fun h=>hlen h.1)]
    go_wp2
    refine ⟨⟨i+1,by omega,by go_num,by rw [o.out]⟩,by simp [intOf];omega⟩
  ·obtain rfl:i=25:=by omega
   have M:(za b).size=b.length:=rfl;cases b with
   | nil =>
    have I:Hid (yN l=⟨0,[],0,0,6⟩):=by unfold yN;rw [←H.out,if_pos rfl];rfl
    go_wp2
    refine bodyPost_ret (v:=zZ ⟨0,[],0,0,6⟩) (by simp [results,Tryz.results164,go_sem,zZ]) rfl ⟨by rw [I.out],?_⟩
    exact (Below.refl w.heap.size w).alloc (Nat.le_refl _) _
   | cons y ys =>
    have I:Hid (yN l=⟨4,y::ys,0,(y::ys).length,0⟩):=by unfold yN;rw [←H.out,if_neg (by simp)];rfl
    go_wp2
    refine bodyPost_ret (v:=zZ ⟨4,y::ys,0,(y::ys).length,0⟩) (by simp [results,Tryz.results164,go_sem,zZ]) rfl ⟨by rw [I.out],?_⟩
    exact (Below.refl w.heap.size w).alloc (Nat.le_refl _) _
def YF:List UInt8→Nat × Nat
 | []=>(0,0)
 | x::r=>if x.toNat<32∨126<x.toNat then (0,0) else if x.toNat≠92 then (x.toNat,1) else
  match r with
  | []=>(0,0)
  | y::_=>if y.toNat=92 then (92,2) else if y.toNat=34 then (34,2) else if y.toNat=110 then (10,2) else (0,0)
theorem Xe (w:World) (l:List UInt8) (i:Nat) (h:i<l.length):(Instr.index 9 (.string (za l)) (.int .i64 (i:Int))).run Tryz.prog w=.ok (.int .u8 ((l[i]).toNat:Int)) w:=by
 rw [run_index_string (P:=Tryz.prog) (w:=w) 9 (za l) .i64 _ Tryz.underlying9,dif_pos ⟨by omega,by rw [zS];omega⟩]
 simp only [Int.toNat_natCast]
 rfl
theorem xP {a:Nat × Nat} {c k:Nat} (h:a=(c,k)):(Ending.returned (.tuple #[.int .u8 (c:Int),.int .i64 (k:Int)]):Ending)=.returned (.tuple #[.int .u8 (a.1:Int),.int .i64 (a.2:Int)]):=by rw [h]
theorem Vd {x:UInt8} {r:List UInt8} (h:x.toNat<32∨126<x.toNat):YF (x::r)=(0,0):=by
 show (if _ then _ else _)=_;rw [if_pos h]
theorem Ve {x:UInt8} {r:List UInt8} (h:¬ (x.toNat<32∨126<x.toNat)) (h2:x.toNat≠92):YF (x::r)=(x.toNat,1):=by
 show (if _ then _ else _)=_;rw [if_neg h,if_pos h2]
theorem Vf {x:UInt8} (h:¬ (x.toNat<32∨126<x.toNat)) (h2:x.toNat=92):YF [x]=(0,0):=by
 show (if _ then _ else _)=_;rw [if_neg h,if_neg (by omega)]
def UO (m:Nat):Nat × Nat:=if m=92 then (92,2) else if m=34 then (34,2) else if m=110 then (10,2) else (0,0)
theorem Vg {x y:UInt8} {t:List UInt8} (h:¬ (x.toNat<32∨126<x.toNat)) (h2:x.toNat=92):YF (x::y::t)=UO y.toNat:=by
 show (if _ then _ else _)=_;rw [if_neg h,if_neg (by omega)];rfl
def Xf:List Nat:=[92,34,110]
def UD:List Nat:=[92,34,10]
theorem UE {m i:Nat} (hi:i<3) (h:∀j (hj:j<3),j<i→(Xf[j]'hj)≠m) (he:(Xf[i]'hi)=m):UO m=((UD[i]'hi),2):=by
 have e:i=0∨i=1∨i=2:=by omega
 rcases e with rfl | rfl | rfl
 ·rw [←he];rfl
 ·rw [←he];rfl
 ·rw [←he];rfl
theorem Ug {m:Nat} (h:∀j (hj:j<3),(Xf[j]'hj)≠m):UO m=(0,0):=by
 have y:92≠m:=h 0 (by decide)
 have o:34≠m:=h 1 (by decide)
 have e:110≠m:=h 2 (by decide)
 unfold UO
 rw [if_neg (by omega),if_neg (by omega),if_neg (by omega)]
theorem uB (w:World) (i:Nat) (h:i<3):(Instr.index 229 (.agg #[.int .u8 92,.int .u8 92,.int .u8 34,.int .u8 34,.int .u8 10,.int .u8 110]) (.int .i64 (i:Int))).run Tryz.prog w=.ok (.agg #[.int .u8 ((UD[i]'h:Nat):Int),.int .u8 ((Xf[i]'h:Nat):Int)]) w:=by
 have e:i=0∨i=1∨i=2:=by omega
 rcases e with rfl | rfl | rfl
 all_goals rfl
theorem Xg (x:UInt8) (r:List UInt8) (w:World) (hl:r.length≤9223372036854775000) (ht:Zt w) :
  Calls Tryz.prog 175 #[.string (za (x::r))] w fun e w'=>e=.returned (.tuple #[.int .u8 (YF (x::r)).1,.int .i64 (YF (x::r)).2])∧Below w.heap.size w w':=by
 have R:=fun wx=>Xe wx (x::r) 0 (by simp)
 rw [show ((0:Nat):Int)=0 from rfl,show (x::r)[0]=x from rfl] at R
 have z:(za (x::r)).size=r.length+1:=rfl;obtain ⟨n,o⟩:∃n,n=x.toNat:=⟨_,rfl⟩;have N:n<256:=by rw [o];exact UInt8.toNat_lt x
 rw [←o] at R;obtain ⟨S,I⟩:∃S,S=za (x::r):=⟨_,rfl⟩;rw [←I] at R z ⊢;have Z:=ht.escs 0 (by decide)
 have Y:=ht.escs 1 (by decide)
 have V:=ht.escs 2 (by decide)
 have U:=ht.escs 3 (by decide)
 have e4:=ht.escs 4 (by decide)
 have e5:=ht.escs 5 (by decide)
 simp only [List.getElem_cons_zero,List.getElem_cons_succ] at Z Y V U e4 e5;clear ht
 by_cases hbad:n<32∨126<n
 ·have A:Hid (YF (x::r)=(0,0)):=Vd (by rw [←o];exact hbad)
  clear I o;rcases hbad with H | H
  ·go_enter Tryz.func175,Tryz.ntmps175
   go_wp2
   go_ret2
   exact ⟨xP A.out,Below.refl _ _⟩
  ·go_enter Tryz.func175,Tryz.ntmps175
   go_wp2
   go_ret2
   exact ⟨xP A.out,Below.refl _ _⟩
 ·by_cases h92:n=92
  ·cases r with
   | nil =>
    have A:Hid (YF [x]=(0,0)):=Vf (by rw [←o];exact hbad) (by rw [←o];exact h92)
    have X:S.size=1:=z;clear I o hbad z;subst h92
    go_enter Tryz.func175,Tryz.ntmps175
    go_wp2
    go_ret2
    exact ⟨xP A.out,Below.refl _ _⟩
   | cons y t =>
    have h1:=fun wx=>Xe wx (x::y::t) 1 (by simp)
    rw [show ((1:Nat):Int)=1 from rfl,show (x::y::t)[1]=y from rfl] at h1
    obtain ⟨m,L⟩:∃m,m=y.toNat:=⟨_,rfl⟩;have O:m<256:=by rw [L];exact UInt8.toNat_lt y
    rw [←L,←I] at h1;have J:Hid (YF (x::y::t)=UO m):=show _=_ by rw [L];exact Vg (by rw [←o];exact hbad) (by rw [←o];exact h92)
    have W:S.size=t.length+2:=z;have aa:((t.length:Int)+2==1)=false:=by rw [beq_eq_false_iff_ne];omega
    have ad:t.length+1≤9223372036854775000:=by simpa using hl
    clear I o hbad z L hl;subst h92
    go_enter Tryz.func175,Tryz.ntmps175
    go_wp2
    clear Z Y V U e4 e5
    go_loopw [26] (fun v wr=>∃i:Nat,i≤3∧v=.int .i64 i∧(∀j (hj:j<3),j<i→(Xf[j]'hj)≠m)∧Below w.heap.size w wr) (fun v _=>3-(intOf v).toNat)
    case atStart=>exact ⟨0,Nat.zero_le _,rfl,fun j _ h=>by omega,Below.refl _ _⟩
    case round =>
     obtain ⟨i,hi,rfl,E,G⟩:=hrel;have Q:Hid (∀j (hj:j<3),j<i→(Xf[j]'hj)≠m):=E;have T:Hid (Below w.heap.size w wr):=G;have D:=G.size;clear E G
     by_cases hlt:i<3
     ·have K:=fun wx=>uB wx i hlt
      obtain ⟨a,M⟩:∃a,a=UD[i]'hlt:=⟨_,rfl⟩;obtain ⟨b,H⟩:∃b,b=Xf[i]'hlt:=⟨_,rfl⟩;rw [←M,←H] at K
      by_cases he:b=m
      ·have A:Hid (YF (x::y::t)=(a,2)):=show _=_ by rw [J.out,M];exact UE hlt Q.out (by rw [←H];exact he)
       subst he;clear M H;go_wp2
       go_quiet (fail)
       go_wp2
       go_ret2
       refine ⟨xP A.out,?_⟩;exact (T.out.alloc D _).trans ⟨rfl,rfl,rfl,Nat.le_refl _,fun _ _=>rfl⟩
      ·have af:((b:Int)==(m:Int))=false:=by rw [beq_eq_false_iff_ne];omega
       have HE:Hid ((Xf[i]'hlt)≠m):=show (Xf[i]'hlt)≠m by rw [←H];exact he
       clear M H he;go_wp2
       go_quiet (fail)
       go_wp2
       refine ⟨⟨i+1,by omega,by go_num,fun j hj hji=>?_,(T.out.alloc D _).trans ⟨rfl,rfl,rfl,Nat.le_refl _,fun _ _=>rfl⟩⟩,by simp [intOf];omega⟩
       by_cases h:j<i
       ·exact Q.out j hj h
       ·obtain rfl:j=i:=by omega
        exact HE.out
     ·obtain rfl:i=3:=by omega
      have A:Hid (YF (x::y::t)=(0,0)):=show _=_ by rw [J.out];exact Ug (fun j hj=>Q.out j hj hj)
      go_wp2
      go_ret2
      exact ⟨xP A.out,T.out⟩
  ·have A:Hid (YF (x::r)=(n,1)):=show YF (x::r)=(n,1) by rw [o];exact Ve (by rw [←o];exact hbad) (by rw [←o];exact h92)
   have ab:32≤n:=by omega
   have ae:n≤126:=by omega
   clear I o hbad
   go_enter Tryz.func175,Tryz.ntmps175
   go_wp2
   go_ret2
   exact ⟨xP A.out,Below.refl _ _⟩
def Zc:Nat→List UInt8→Nat→List UInt8→TR
 | 0,_,_,_=>⟨0,[],0,0,6⟩
 | _+1,_,_,[]=>⟨0,[],0,0,6⟩
 | f+1,meant,at0,x::r=>if x.toNat=34 then ⟨3,meant,0,at0+1,0⟩ else if (YF (x::r)).2=0 then ⟨0,[],0,0,6⟩ else if meant.length=255 then ⟨0,[],0,0,5⟩
  else Zc f (meant++[(YF (x::r)).1.toUInt8]) (at0+(YF (x::r)).2) ((x::r).drop (YF (x::r)).2)
def Z9 (l:List UInt8):TR:=Zc l.length [] 1 (l.drop 1)
theorem uC (l:List UInt8):(YF l).2≤l.length∧(YF l).1<256:=by
 cases l with
 | nil=>exact ⟨Nat.le_refl _,by decide⟩
 | cons x r =>
  by_cases h:x.toNat<32∨126<x.toNat
  ·rw [Vd h];simp
  ·by_cases h2:x.toNat=92
   ·cases r with
    | nil=>rw [Vf h h2];simp
    | cons y t =>
     rw [Vg h h2]
     unfold UO
     split
     ·simp
     ·split
      ·simp
      ·split <;> simp
   ·rw [Ve h h2]
    have:=UInt8.toNat_lt x
    simp;omega
abbrev ya:Obj:=Obj.cells #[Value.int IntKind.i64 0,Value.string ⟨#[]⟩,Value.int IntKind.i64 0,Value.int IntKind.i64 0,Value.int IntKind.i64 0] 142
theorem yp {w w1:World} (hb:Below (w.heap.size+1) (w.alloc ya) w1) :
  (∀o,w1.cell? ⟨w.heap.size,o,none⟩=(w.alloc ya).cell? ⟨w.heap.size,o,none⟩)∧(∀o,w1.frozen? ⟨w.heap.size,o,none⟩=(w.alloc ya).frozen? ⟨w.heap.size,o,none⟩) :=
 ⟨fun o=>hb.cell (p:=⟨w.heap.size,o,none⟩) (by simp),fun o=>hb.frozen (p:=⟨w.heap.size,o,none⟩) (by simp)⟩
theorem Zl {w w1:World} (h:Below w.heap.size w w1) (a b c d e:Value) :
  Below w.heap.size w (((((w1.setCell ⟨w.heap.size,0,none⟩ a).setCell ⟨w.heap.size,1,none⟩ b).setCell ⟨w.heap.size,2,none⟩ c).setCell ⟨w.heap.size,3,none⟩ d).setCell ⟨w.heap.size,4,none⟩ e) :=
 ((((h.setCell (p:=⟨w.heap.size,0,none⟩) (Nat.le_refl _) _).setCell (p:=⟨w.heap.size,1,none⟩) (Nat.le_refl _) _).setCell (p:=⟨w.heap.size,2,none⟩) (Nat.le_refl _) _).setCell (p:=⟨w.heap.size,3,none⟩) (Nat.le_refl _) _).setCell (p:=⟨w.heap.size,4,none⟩) (Nat.le_refl _) _
theorem VJ {w w':World} {B C e n:Nat} {v:Value} {xs:List Value} (h:w.ownsRow B e 1 v n xs) (hb:Below C w w') (hC:w.heap.size≤C):w'.ownsRow B e 1 v n xs :=
 h.kept (row:=none) ⟨hb.os,hb.tape,hb.output,hb.size,fun k hk _=>hb.block k (by omega)⟩ (by cases h':v.ownBlock <;> simp)
theorem xz (l:List UInt8) (w:World) (hl:l.length≤140737488351232) (hl1:1≤l.length) (ht:Zt w) :
  Calls Tryz.prog 163 #[.string (za l)] w fun e w'=>e=.returned (zZ (Z9 l))∧Below w.heap.size w w':=by
 have HT:Hid (Zt w):=ht;have aC:(za l).size=l.length:=rfl;have hA:Below w.heap.size w (w.alloc ya):=(Below.refl w.heap.size w).alloc (Nat.le_refl _) _;have HA:Hid (Below w.heap.size w (w.alloc ya)):=hA;clear ht hA
 go_enter Tryz.func163,Tryz.ntmps163
 go_wp2
 go_loopw [5,6] (fun vm va wr=>∃(f at0:Nat) (o:List UInt8),va=.int .i64 at0∧at0≤l.length∧l.length≤at0+f∧o.length≤255∧Z9 l=Zc f o at0 (l.drop at0) ∧
   wr.ownsRow (w.heap.size+1) 5 1 vm o.length (Lib.byteCells o)∧Below (w.heap.size+1) (w.alloc ya) wr) (fun _ a _=>l.length-(intOf a).toNat)
 case atStart=>exact ⟨l.length,1,[],rfl,hl1,by omega,by simp,rfl,World.ownsRow_nil _ _ _ _,Below.refl _ _⟩
 case round =>
  obtain ⟨f,at0,o,rfl,aB,aD,an,ai,R,J⟩:=hrel;have ag:Hid (Z9 l=Zc f o at0 (l.drop at0)):=ai;have ad:Hid (Below (w.heap.size+1) (w.alloc ya) wr):=J;have HB:Hid (Below w.heap.size w wr):=HA.out.trans (J.mono (by omega))
  have Q:=J.size;rw [World.size_alloc] at Q;obtain ⟨A,af⟩:=yp J;have HO:Hid (wr.ownsRow (w.heap.size+1) 5 1 u5 o.length (Lib.byteCells o)):=R;clear ai J R
  by_cases hlt:at0<l.length
  ·obtain ⟨x,r,D⟩:∃x r,l.drop at0=x::r:=⟨l[at0],l.drop (at0+1),List.drop_eq_getElem_cons hlt⟩
   have ak:l[at0]=x:=by
    have h:=List.drop_eq_getElem_cons hlt;rw [D] at h;exact (List.cons.inj h).1.symm
   have T:=fun wx=>Xe wx l at0 hlt
   rw [ak] at T;obtain ⟨n,hn⟩:∃n,n=x.toNat:=⟨_,rfl⟩;rw [←hn] at T;have am:n<256:=by rw [hn];exact UInt8.toNat_lt x
   obtain ⟨Y,rfl⟩:∃Y,f=Y+1:=⟨f-1,by omega⟩
   have ah:Hid (Z9 l=if n=34 then ⟨3,o,0,at0+1,0⟩ else if (YF (x::r)).2=0 then ⟨0,[],0,0,6⟩ else if o.length=255 then ⟨0,[],0,0,5⟩ else Zc Y (o++[(YF (x::r)).1.toUInt8]) (at0+(YF (x::r)).2) ((x::r).drop (YF (x::r)).2)):=show _=_ by
    rw [ag.out,D,hn];rfl
   have au:=fun wx=>yK wx l at0 (by omega)
   rw [D] at au;have aa:(x::r).length=l.length-at0:=by rw [←D,List.length_drop]
   have ap:Hid (l.drop at0=x::r):=D;clear ak hn D
   by_cases h34:n=34
   ·have M:Hid (Z9 l=⟨3,o,0,at0+1,0⟩):=show _=_ by rw [ah.out,if_pos h34]
    subst h34;obtain ⟨z,E,rfl,G,-,-,-⟩:=YH HO.out;have aA:=XC wr z o E G;clear G;go_wp2
    refine bodyPost_ret (v:=zZ ⟨3,o,0,at0+1,0⟩) (by simp [results,Tryz.results163,go_sem,zZ,A]) rfl ⟨by rw [M.out],?_⟩
    exact Zl HB.out _ _ _ _ _
   ·have ay:((n:Int)==34)=false:=by rw [beq_eq_false_iff_ne];omega
    have K:=uC (x::r);have cb:=Xg x r wr (by simp at aa;omega) (HT.out.below HB.out (Nat.le_refl _))
    obtain ⟨c,L,U⟩:∃c L,YF (x::r)=(c,L):=⟨_,_,rfl⟩;rw [U] at cb K;simp only at K
    have V:Hid (Z9 l=if L=0 then ⟨0,[],0,0,6⟩ else if o.length=255 then ⟨0,[],0,0,5⟩ else Zc Y (o++[c.toUInt8]) (at0+L) ((x::r).drop L)):=show _=_ by
     rw [ah.out,if_neg h34,U]
    clear U h34;go_wp2_with fail
    refine cb.mono ?_;clear cb A af;rintro e w2 ⟨rfl,N⟩;have ax:=N.size;have O:Below (w.heap.size+1) (w.alloc ya) w2:=ad.out.trans (N.mono Q);obtain ⟨A,af⟩:=yp O;have ar:Hid (Below (w.heap.size+1) (w.alloc ya) w2):=O;have aj:Hid (Below w.heap.size w w2):=HA.out.trans (O.mono (by omega))
    have X:Hid (w2.ownsRow (w.heap.size+1) 5 1 u5 o.length (Lib.byteCells o)):=VJ HO.out N (Nat.le_refl _);clear N O HO ad
    by_cases hs0:L=0
    ·have M:Hid (Z9 l=⟨0,[],0,0,6⟩):=show _=_ by rw [V.out,if_pos hs0]
     subst hs0;go_wp2
     refine bodyPost_ret (v:=zZ ⟨0,[],0,0,6⟩) (by simp [results,Tryz.results163,go_sem,zZ,A]) rfl ⟨by rw [M.out],?_⟩
     exact Zl aj.out _ _ _ _ _
    ·have aw:((L:Int)==0)=false:=by rw [beq_eq_false_iff_ne];omega
     obtain ⟨z,E,rfl,-,-,-,-⟩:=YH X.out;obtain ⟨Z,y⟩:∃Z,Z=o.length:=⟨_,rfl⟩;have ae:Hid (Z=o.length):=y;rw [←y]
     by_cases h255:Z=255
     ·have M:Hid (Z9 l=⟨0,[],0,0,5⟩):=show _=_ by rw [V.out,if_neg hs0,if_pos (by rw [←y];exact h255)]
      clear y;subst h255;go_wp2
      refine bodyPost_ret (v:=zZ ⟨0,[],0,0,5⟩) (by simp [results,Tryz.results163,go_sem,zZ,A]) rfl ⟨by rw [M.out],?_⟩
      exact Zl aj.out _ _ _ _ _
     ·have aq:((Z:Int)==255)=false:=by rw [beq_eq_false_iff_ne];omega
      have M:Hid (Z9 l=Zc Y (o++[c.toUInt8]) (at0+L) (l.drop (at0+L))):=show _=_ by
       rw [V.out,if_neg hs0,if_neg (by rw [←y];exact h255),←ap.out,List.drop_drop]
      have al:Hid (w2.ownsRow (w.heap.size+1) 5 1 (.slice z Z E) o.length (Lib.byteCells o)):=by rw [y];exact X.out
      have W:=K.2;have ab:=K.1;rw [aa] at ab;have az:o.length≤255:=an;clear y X K
      go_wp2_with (at_builtin;refine yx rfl _ _ rfl (w.heap.size+1) _ o rfl (al.out.alloc _) _ [c.toUInt8] rfl (XJ W (by simp)) (by simp;omega) (by simp;omega) ?_)
      intro v3 w3 H I;have av:Hid (Below (w.heap.size+1) (w.alloc ya) w3):=(ar.out.alloc (by omega) _).grown I (by simp;omega) (fun q hq=>(al.out.lt q hq).1)
      have ao:Hid (w3.ownsRow (w.heap.size+1) 5 1 v3 (o++[c.toUInt8]).length (Lib.byteCells (o++[c.toUInt8]))):=by
       rw [show (o++[c.toUInt8]).length=o.length+1 by simp];exact H
      clear I H;go_wp2
      refine ⟨⟨Y,at0+L,o++[c.toUInt8],by go_num,by omega,by omega,?_,M.out,ao.out,av.out⟩,by simp [intOf];omega⟩
      rw [List.length_append,List.length_singleton,←ae.out]
      have:=ae.out
      omega
  ·obtain rfl:at0=l.length:=by omega
   have M:Hid (Z9 l=⟨0,[],0,0,6⟩):=show _=_ by
    rw [ag.out,List.drop_length];cases f <;> rfl
   go_wp2
   refine bodyPost_ret (v:=zZ ⟨0,[],0,0,6⟩) (by simp [results,Tryz.results163,go_sem,zZ,A]) rfl ⟨by rw [M.out],?_⟩
   exact Zl HB.out _ _ _ _ _
def ZB (l:List UInt8):TR :=
 match l with
 | []=>⟨0,[],0,0,0⟩
 | x::_=>if ZZ x.toNat=true then yo l else if Zh x.toNat=true then Y1 l else if x.toNat=34 then Z9 l else yN l
theorem Uh {x:UInt8} {r:List UInt8} (h:Zh x.toNat=true):digL (x::r)≠[]:=by
 unfold digL;simp [h]
theorem VK (l:List UInt8) (w:World) (hl:l.length≤140737488351232) (ht:Zt w) :
  Calls Tryz.prog 141 #[.string (za l)] w fun e w'=>e=.returned (zZ (ZB l))∧Below w.heap.size w w':=by
 have T:Below w.heap.size w (w.alloc ya):=(Below.refl w.heap.size w).alloc (Nat.le_refl _) _;have N:Hid (Below w.heap.size w (w.alloc ya)):=T;have Q:Hid (Zt (w.alloc ya)):=ht.alloc _;clear ht T;cases l with
 | nil =>
  go_enter Tryz.func141,Tryz.ntmps141
  go_wp2
  refine bodyPost_ret (v:=zZ ⟨0,[],0,0,0⟩) (by simp [results,Tryz.results141,go_sem,zZ]) rfl ⟨rfl,?_⟩
  exact N.out
 | cons x r =>
  have J:=fun wx=>Xe wx (x::r) 0 (by simp)
  rw [show ((0:Nat):Int)=0 from rfl,show (x::r)[0]=x from rfl] at J
  obtain ⟨n,O⟩:∃n,n=x.toNat:=⟨_,rfl⟩;rw [←O] at J;have G:n<256:=by rw [O];exact UInt8.toNat_lt x
  have H:Hid (ZB (x::r)=if ZZ n=true then yo (x::r) else if Zh n=true then Y1 (x::r) else if n=34 then Z9 (x::r) else yN (x::r)):=show _=_ by rw [O];rfl
  have Y:Hid (Zh n=true→digL (x::r)≠[]):=fun h=>Uh (by rw [←O];exact h)
  have Z:¬ (x::r)=[]:=by simp
  clear O
  go_enter Tryz.func141,Tryz.ntmps141
  have X:(x::r).length≤140737488351232:=hl;have I:Hid (∀(R:TR) (A:World),Below (w.alloc ya).heap.size (w.alloc ya) A→Below (w.heap.size+1) (w.alloc ya) A):=fun R A h=>by rw [World.size_alloc] at h;exact h
  have U:=Z8 n G (w.alloc ya);go_wp2_with fail
  refine U.mono ?_;clear U;rintro e A ⟨rfl,rfl⟩;cases h1:ZZ n with
  | true =>
   obtain ⟨R,D⟩:∃R,R=yo (x::r):=⟨_,rfl⟩;have z:=xx (x::r) (w.alloc ya) (by omega) Q.out
   rw [←D] at z;have L:Hid (ZB (x::r)=R):=show _=_ by rw [H.out,if_pos h1,D]
   unfold zZ at z
   clear D;go_wp2_with fail
   refine z.mono ?_;clear z;rintro e A ⟨rfl,y⟩;have o:=I.out R A y;obtain ⟨E,K⟩:=yp o;have M:Hid (Below w.heap.size w A):=N.out.trans (o.mono (by omega))
   clear y o;go_wp2
   refine bodyPost_ret (v:=zZ R) (by simp [results,Tryz.results141,go_sem,zZ,E]) rfl ⟨by rw [L.out],?_⟩
   exact Zl M.out _ _ _ _ _
  | false =>
   have V:=yL n G (w.alloc ya);go_wp2_with fail
   refine V.mono ?_;clear V;rintro e A ⟨rfl,rfl⟩;cases h2:Zh n with
   | true =>
    obtain ⟨R,D⟩:∃R,R=Y1 (x::r):=⟨_,rfl⟩;have z:=YE (x::r) (w.alloc ya) (by omega) (Y.out h2) Q.out
    rw [←D] at z;have L:Hid (ZB (x::r)=R):=show _=_ by rw [H.out,if_neg (by rw [h1];simp),if_pos h2,D]
    unfold zZ at z
    clear D;go_wp2_with fail
    refine z.mono ?_;clear z;rintro e A ⟨rfl,y⟩;have o:=I.out R A y;obtain ⟨E,K⟩:=yp o;have M:Hid (Below w.heap.size w A):=N.out.trans (o.mono (by omega))
    clear y o;go_wp2
    refine bodyPost_ret (v:=zZ R) (by simp [results,Tryz.results141,go_sem,zZ,E]) rfl ⟨by rw [L.out],?_⟩
    exact Zl M.out _ _ _ _ _
   | false =>
    by_cases h34:n=34
    ·obtain ⟨R,D⟩:∃R,R=Z9 (x::r):=⟨_,rfl⟩
     have z:=xz (x::r) (w.alloc ya) (by omega) (by simp) Q.out
     rw [←D] at z;have L:Hid (ZB (x::r)=R):=show _=_ by rw [H.out,if_neg (by rw [h1];simp),if_neg (by rw [h2];simp),if_pos h34,D]
     subst h34
     unfold zZ at z
     clear D;go_wp2_with fail
     refine z.mono ?_;clear z;rintro e A ⟨rfl,y⟩;have o:=I.out R A y;obtain ⟨E,K⟩:=yp o;have M:Hid (Below w.heap.size w A):=N.out.trans (o.mono (by omega))
     clear y o;go_wp2
     refine bodyPost_ret (v:=zZ R) (by simp [results,Tryz.results141,go_sem,zZ,E]) rfl ⟨by rw [L.out],?_⟩
     exact Zl M.out _ _ _ _ _
    ·obtain ⟨R,D⟩:∃R,R=yN (x::r):=⟨_,rfl⟩
     have W:((n:Int)==34)=false:=by rw [beq_eq_false_iff_ne];omega
     have z:=xy (x::r) (w.alloc ya) Q.out;rw [←D] at z;have L:Hid (ZB (x::r)=R):=show _=_ by rw [H.out,if_neg (by rw [h1];simp),if_neg (by rw [h2];simp),if_neg h34,D]
     unfold zZ at z
     clear D;go_wp2_with fail
     refine z.mono ?_;clear z;rintro e A ⟨rfl,y⟩;have o:=I.out R A y;obtain ⟨E,K⟩:=yp o;have M:Hid (Below w.heap.size w A):=N.out.trans (o.mono (by omega))
     clear y o;go_wp2
     refine bodyPost_ret (v:=zZ R) (by simp [results,Tryz.results141,go_sem,zZ,E]) rfl ⟨by rw [L.out],?_⟩
     exact Zl M.out _ _ _ _ _
end Go.Proofs.YtmbofhpmockmbaaGreatDoor

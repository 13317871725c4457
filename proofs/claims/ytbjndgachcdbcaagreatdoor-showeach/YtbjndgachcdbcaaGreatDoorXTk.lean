import Derived.Test.YtbjndgachcdbcaaGreatDoorMC1
import Derived.Test.YtbjndgachcdbcaaGreatDoorWAll
import Derived.Deep.MidRow
import Derived.LoopN
namespace Go.Proofs.YtbjndgachcdbcaaGreatDoor
open Go.RowKit
set_option maxHeartbeats 16000000
set_option maxRecDepth 100000
structure TR where
 k:Nat
 s:List UInt8
 n:Nat
 sz:Nat
 e:Nat
def zz (r:TR):Value:=.tuple #[.agg #[.int .i64 r.k,.string (za r.s),.int .i64 r.n,.int .i64 0,.int .i64 0],.int .i64 r.sz,.int .i64 r.e]
def Zy (l:List UInt8):List UInt8:=l.takeWhile fun c=>xh c.toNat
def yq (l:List UInt8):TR:=if ZE (Zy l)=true then ⟨5,Zy l,0,(Zy l).length,0⟩ else if 20<(Zy l).length then ⟨0,[],0,0,5⟩ else ⟨1,Zy l,0,(Zy l).length,0⟩
theorem Xb (p:UInt8→Bool) (l:List UInt8):l.take (l.takeWhile p).length=l.takeWhile p:=by
 induction l with
 | nil=>rfl
 | cons x l ih =>
  by_cases h:p x=true
  ·simp [h,ih]
  ·simp [h]
theorem VN (l:List UInt8):(Zy l).length≤l.length:=(List.takeWhile_sublist _).length_le
theorem Zb.alloc {w:World} (h:Zb w) (o:Obj):Zb (w.alloc o) :=
 ⟨fun j hj=>Lib.cell?_alloc_some o (h.words j hj),fun j hj=>Lib.cell?_alloc_some o (h.signs j hj),fun j hj=>Lib.cell?_alloc_some o (h.escs j hj),by obtain ⟨a,b,c⟩:=h.range;exact ⟨a,b,Lib.cell?_alloc_some o c⟩⟩
theorem Zb.below {w w':World} {B:Nat} (h:Zb w) (hb:Below B w w') (hB:w.heap.size≤B):Zb w':=by
 have e:∀{p:Addr} {v:Value},w.cell? p=some v→w'.cell? p=some v:=fun {p v} hp=>by
  rw [hb.cell (Nat.lt_of_lt_of_le (World.block_lt_of_cell? w _ hp) hB)];exact hp
 exact ⟨fun j hj=>e (h.words j hj),fun j hj=>e (h.signs j hj),fun j hj=>e (h.escs j hj),by obtain ⟨a,b,c⟩:=h.range;exact ⟨a,b,e c⟩⟩
theorem Y2 (l:List UInt8) (w:World) (hl:l.length≤9223372036854775000) (ht:Zb w) :
  Calls Tryz.prog 63 #[.string (za l)] w fun e w'=>e=.returned (zz (yq l))∧Below w.heap.size w w':=by
 have B:Hid (Zb w):=ht;have b:=VN l;obtain ⟨m,o⟩:∃m,m=(Zy l).length:=⟨_,rfl⟩;rw [←o] at b;have c:=fun wx=>XR wx l m b
 rw [show l.take m=Zy l by rw [o];exact Xb _ l] at c
 have u:Hid (m=(Zy l).length):=o;clear ht
 have D:Hid (∀wx,Calls Tryz.prog 80 #[.string (za l),.func (.func 81) #[] #[]] wx fun e w'=>e=.returned (.int .i64 m)∧wx=w'):=fun wx=>by
  rw [o];exact VK l wx hl
 have A:Hid (∀wx,Zb wx→Calls Tryz.prog 82 #[.string (za (Zy l))] wx fun e w'=>e=.returned (.bool (ZE (Zy l)))∧wx=w'):=fun wx h=>VM _ wx h
 clear o;have E:=(Below.refl w.heap.size w).alloc (Nat.le_refl _);obtain ⟨x,z⟩:∃x,x=Zy l:=⟨_,rfl⟩;rw [←z] at c A u;have y:Hid (x=Zy l):=z;clear z
 go_enter Tryz.func63,Tryz.ntmps63
 go_wp2_with fail
 refine (D.out _).mono ?_;rintro e w1 ⟨rfl,rfl⟩;go_wp2_with fail
 refine (A.out _ (B.out.alloc _)).mono ?_;rintro e w1 ⟨rfl,rfl⟩;cases hq:ZE x with
 | true =>
  have q:Hid (yq l=⟨5,x,0,m,0⟩):=by unfold yq;rw [←y.out,if_pos hq,←u.out];rfl
  go_wp2
  refine bodyPost_ret (v:=zz ⟨5,x,0,m,0⟩) (by simp [results,Tryz.results63,go_sem,zz]) rfl ⟨by rw [q.out],?_⟩
  exact (Below.refl w.heap.size w).alloc (Nat.le_refl _) _
 | false =>
  by_cases h20:20<m
  ·have q:Hid (yq l=⟨0,[],0,0,5⟩):=by unfold yq;rw [←y.out,if_neg (by rw [hq];simp),if_pos (by rw [←u.out];exact h20)];rfl
   go_wp2
   refine bodyPost_ret (v:=zz ⟨0,[],0,0,5⟩) (by simp [results,Tryz.results63,go_sem,zz]) rfl ⟨by rw [q.out],?_⟩
   exact (Below.refl w.heap.size w).alloc (Nat.le_refl _) _
  ·have q:Hid (yq l=⟨1,x,0,m,0⟩):=by unfold yq;rw [←y.out,if_neg (by rw [hq];simp),if_neg (by rw [←u.out];exact h20),←u.out];rfl
   go_wp2
   refine bodyPost_ret (v:=zz ⟨1,x,0,m,0⟩) (by simp [results,Tryz.results63,go_sem,zz]) rfl ⟨by rw [q.out],?_⟩
   exact (Below.refl w.heap.size w).alloc (Nat.le_refl _) _
def valA (acc:Nat):List UInt8→Nat
 | []=>acc
 | c::r=>valA (acc*10+(c.toNat-48)) r
theorem vC:∀(r:List UInt8) (acc:Nat),acc≤valA acc r
 | [],_=>Nat.le_refl _
 | c::r,acc=>Nat.le_trans (by omega) (vC r (acc*10+(c.toNat-48)))
theorem xH (ds:List UInt8):∀(b:Nat),(∀c∈ds,zA c.toNat=true)→b<18446744073709551616 →
  Lib.parseUint10 b ds=if valA b ds<18446744073709551616 then .ok (valA b ds) else .range:=by
 induction ds with
 | nil =>
  intro b _ m;rw [show valA b []=b from rfl,if_pos m]
  rfl
 | cons c r ih =>
  intro b h m;have e:=h c (List.mem_cons_self ..)
  unfold zA at e
  rw [Bool.and_eq_true,decide_eq_true_eq,decide_eq_true_eq] at e;have o:=vC r (b*10+(c.toNat-48));rw [show valA b (c::r)=valA (b*10+(c.toNat-48)) r from rfl]
  unfold Lib.parseUint10
  rw [if_pos e]
  by_cases h1:1844674407370955162≤b
  ·rw [if_pos h1,if_neg (by omega)]
  ·rw [if_neg h1]
   by_cases h2:18446744073709551616≤b*10+(c.toNat-48)
   ·rw [if_pos h2,if_neg (by omega)]
   ·rw [if_neg h2]
    exact ih _ (fun d hd=>h d (List.mem_cons_of_mem _ hd)) (by omega)
theorem Xc {ds:List UInt8} (h:∀c∈ds,zA c.toNat=true) (hne:ds≠[]) :
  Lib.atoiAll ds=if valA 0 ds<9223372036854775808 then .ok (valA 0 ds:Int) else .range:=by
 cases ds with
 | nil=>exact absurd rfl hne
 | cons c r =>
  have m:=h c (List.mem_cons_self ..)
  unfold zA at m
  rw [Bool.and_eq_true,decide_eq_true_eq,decide_eq_true_eq] at m;have o:¬ (c.toNat=43∨c.toNat=45):=by omega
  have b:¬ c.toNat=45:=by omega
  have e:Lib.parseMag (c::r)=if valA 0 (c::r)<18446744073709551616 then .ok (valA 0 (c::r)) else .range:=by
   unfold Lib.parseMag;rw [if_neg (by simp)];exact xH _ 0 h (by omega)
  generalize valA 0 (c::r)=v at e ⊢;have q:(if c.toNat=43∨c.toNat=45 then r else c::r)=c::r:=if_neg o
  unfold Lib.atoiAll
  simp only [q];rw [e]
  by_cases h3:v<18446744073709551616
  ·rw [if_pos h3]
   by_cases h4:v<9223372036854775808
   ·simp only
    rw [if_neg (by omega),if_neg (by omega),if_neg b,if_pos h4]
   ·simp only
    rw [if_pos ⟨b,by omega⟩,if_neg h4]
  ·rw [if_neg h3,if_neg (by omega)]
theorem vD {p:UInt8→Bool}:∀(l:List UInt8) (c:UInt8),c∈l.takeWhile p→p c=true
 | [],c,h=>by simp at h
 | x::l,c,h=>by
  by_cases hx:p x=true
  ·rw [List.takeWhile_cons_of_pos hx] at h
   rcases List.mem_cons.1 h with rfl | h
   ·exact hx
   ·exact vD l c h
  ·rw [List.takeWhile_cons_of_neg hx] at h
   simp at h
def digL (l:List UInt8):List UInt8:=l.takeWhile fun c=>zA c.toNat
def Xd (l:List UInt8):TR:=if valA 0 (digL l)<9223372036854775808 then ⟨2,[],valA 0 (digL l),(digL l).length,0⟩ else ⟨0,[],0,0,5⟩
theorem uy (l:List UInt8):(digL l).length≤l.length:=(List.takeWhile_sublist _).length_le
theorem VO (l:List UInt8):∀c∈digL l,zA c.toNat=true:=fun c hc=>vD (p:=fun c=>zA c.toNat) l c hc
theorem Yo (l:List UInt8) (w:World) (hl:l.length≤140737488351232) (hne:digL l≠[]) (ht:Zb w) :
  Calls Tryz.prog 65 #[.string (za l)] w fun e w'=>e=.returned (zz (Xd l))∧Below w.heap.size w w':=by
 have V:Hid (Zb w):=ht;have q:=uy l;obtain ⟨m,D⟩:∃m,m=(digL l).length:=⟨_,rfl⟩;rw [←D] at q;have z:=fun wx=>XR wx l m q
 rw [show l.take m=digL l by rw [D];exact Xb _ l] at z
 have F:Hid (m=(digL l).length):=D;have T:m≤140737488351232:=by omega
 clear ht
 have W:Hid (∀wx,Calls Tryz.prog 80 #[.string (za l),.func (.func 64) #[] #[]] wx fun e w'=>e=.returned (.int .i64 m)∧wx=w'):=fun wx=>by
  rw [D];exact vW l wx (by omega)
 have c:=Xc (VO l) hne;obtain ⟨x,I⟩:∃x,x=digL l:=⟨_,rfl⟩;rw [←I] at z F c;obtain ⟨v,H⟩:∃v,v=valA 0 x:=⟨_,rfl⟩;rw [←H] at c;have M:Hid (x=digL l):=I;have U:Hid (v=valA 0 x):=H;have A:Hid (Lib.atoiAll x=if v<9223372036854775808 then .ok (v:Int) else .range):=c
 clear I H c D
 go_enter Tryz.func65,Tryz.ntmps65
 go_wp2_with fail
 refine (W.out _).mono ?_;rintro e w1 ⟨rfl,rfl⟩
 by_cases h63:v<9223372036854775808
 ·have B:=fun wx=>Tryz.strconv_Atoi_ok (za x) (by rw [zs,←F.out];omega) v (by show Lib.atoiAll x=_;rw [A.out,if_pos h63]) wx
  have K:Hid (Xd l=⟨2,[],v,m,0⟩):=by unfold Xd;rw [←M.out,←U.out,if_pos h63,←F.out];rfl
  go_wp2_with fail
  refine (B _).mono ?_;clear B;rintro e w1 ⟨rfl,E⟩
  have b:Below (w.heap.size+1) (w.alloc (Obj.cells #[Value.int IntKind.i64 0,Value.string ⟨#[]⟩,Value.int IntKind.i64 0,Value.int IntKind.i64 0,Value.int IntKind.i64 0] 103)) w1:=by
   rcases E with rfl | ⟨t,rfl⟩
   ·exact Below.refl _ _
   ·have y:=Lib.bytesWorld_below (w.alloc (Obj.cells #[Value.int IntKind.i64 0,Value.string ⟨#[]⟩,Value.int IntKind.i64 0,Value.int IntKind.i64 0,Value.int IntKind.i64 0] 103)) 5 t
    rw [World.size_alloc] at y;exact y
  clear E
  obtain ⟨h,J⟩:(∀o,w1.cell? ⟨w.heap.size,o,none⟩=(w.alloc (Obj.cells #[Value.int IntKind.i64 0,Value.string ⟨#[]⟩,Value.int IntKind.i64 0,Value.int IntKind.i64 0,Value.int IntKind.i64 0] 103)).cell? ⟨w.heap.size,o,none⟩)∧(∀o,w1.frozen? ⟨w.heap.size,o,none⟩=(w.alloc (Obj.cells #[Value.int IntKind.i64 0,Value.string ⟨#[]⟩,Value.int IntKind.i64 0,Value.int IntKind.i64 0,Value.int IntKind.i64 0] 103)).frozen? ⟨w.heap.size,o,none⟩) :=
   ⟨fun o=>b.cell (p:=⟨w.heap.size,o,none⟩) (by simp),fun o=>b.frozen (p:=⟨w.heap.size,o,none⟩) (by simp)⟩
  have G:Hid (Below w.heap.size w w1):=((Below.refl w.heap.size w).alloc (Nat.le_refl _) _).trans (b.mono (by omega))
  clear b;go_wp2
  refine bodyPost_ret (v:=zz ⟨2,[],v,m,0⟩) (by simp [results,Tryz.results65,go_sem,zz,h]) rfl ⟨by rw [K.out],?_⟩
  exact ((((G.out.setCell (p:=⟨w.heap.size,0,none⟩) (Nat.le_refl _) _).setCell (p:=⟨w.heap.size,1,none⟩) (Nat.le_refl _) _).setCell (p:=⟨w.heap.size,2,none⟩) (Nat.le_refl _) _).setCell (p:=⟨w.heap.size,3,none⟩) (Nat.le_refl _) _).setCell (p:=⟨w.heap.size,4,none⟩) (Nat.le_refl _) _
 ·obtain ⟨R,O,u⟩:=V.out.range
  have B:=Tryz.strconv_Atoi_range (za x) (by rw [zs,←F.out];omega) (by show Lib.atoiAll x=_;rw [A.out,if_neg h63]) (.iface R O) (w.alloc (Obj.cells #[Value.int IntKind.i64 0,Value.string ⟨#[]⟩,Value.int IntKind.i64 0,Value.int IntKind.i64 0,Value.int IntKind.i64 0] 103)) (Lib.cell?_alloc_some _ u) (.inr ⟨R,O,rfl⟩)
  have K:Hid (Xd l=⟨0,[],0,0,5⟩):=by unfold Xd;rw [←M.out,←U.out,if_neg h63];rfl
  go_wp2_with fail
  refine B.mono ?_;clear B;rintro e w1 ⟨X,rfl,-,-,b⟩;rw [World.size_alloc] at b
  obtain ⟨h,J⟩:(∀o,w1.cell? ⟨w.heap.size,o,none⟩=(w.alloc (Obj.cells #[Value.int IntKind.i64 0,Value.string ⟨#[]⟩,Value.int IntKind.i64 0,Value.int IntKind.i64 0,Value.int IntKind.i64 0] 103)).cell? ⟨w.heap.size,o,none⟩)∧(∀o,w1.frozen? ⟨w.heap.size,o,none⟩=(w.alloc (Obj.cells #[Value.int IntKind.i64 0,Value.string ⟨#[]⟩,Value.int IntKind.i64 0,Value.int IntKind.i64 0,Value.int IntKind.i64 0] 103)).frozen? ⟨w.heap.size,o,none⟩) :=
   ⟨fun o=>b.cell (p:=⟨w.heap.size,o,none⟩) (by simp),fun o=>b.frozen (p:=⟨w.heap.size,o,none⟩) (by simp)⟩
  have G:Hid (Below w.heap.size w w1):=((Below.refl w.heap.size w).alloc (Nat.le_refl _) _).trans (b.mono (by omega))
  clear b u;go_wp2
  refine bodyPost_ret (v:=zz ⟨0,[],0,0,5⟩) (by simp [results,Tryz.results65,go_sem,zz,h]) rfl ⟨by rw [K.out],?_⟩
  exact ((((G.out.setCell (p:=⟨w.heap.size,0,none⟩) (Nat.le_refl _) _).setCell (p:=⟨w.heap.size,1,none⟩) (Nat.le_refl _) _).setCell (p:=⟨w.heap.size,2,none⟩) (Nat.le_refl _) _).setCell (p:=⟨w.heap.size,3,none⟩) (Nat.le_refl _) _).setCell (p:=⟨w.heap.size,4,none⟩) (Nat.le_refl _) _
def longer (l best x:List UInt8):List UInt8:=if best.length<x.length∧Lib.hasPrefix l x=true then x else best
def zY (l:List UInt8) (n:Nat):List UInt8:=(signsL.take n).foldl (longer l) []
def Yh (l:List UInt8):TR:=if zY l 25=[] then ⟨0,[],0,0,6⟩ else ⟨4,zY l 25,0,(zY l 25).length,0⟩
theorem XS (l:List UInt8) (n:Nat) (h:n<signsL.length):zY l (n+1)=longer l (zY l n) signsL[n]:=by
 unfold zY;rw [List.take_succ_eq_append_getElem h,List.foldl_append];rfl
theorem vZ (l:List UInt8) (n:Nat):(zY l n).length≤2:=by
 have h:∀(c:List (List UInt8)) (b:List UInt8),(∀x∈c,x.length≤2)→b.length≤2→(c.foldl (longer l) b).length≤2:=by
  intro c
  induction c with
  | nil=>intro b _ m;exact m
  | cons x c ih =>
   intro b e m;refine ih _ (fun y hy=>e y (List.mem_cons_of_mem _ hy)) ?_
   unfold longer
   split
   ·exact e x (List.mem_cons_self ..)
   ·exact m
 exact h _ _ (fun x e=>by
  have:∀x∈signsL,x.length≤2:=by decide
  exact this x (List.mem_of_mem_take e)) (by simp)
def yR:List Value:=signsL.map fun x=>.string (za x)
def signsV:Value:=.agg yR.toArray
theorem Xe {w:World} (ht:Zb w):w.rangeAt 2 0 yR:=fun j v hv=>by
 unfold yR at hv
 rw [List.getElem?_map] at hv;rcases Nat.lt_or_ge j signsL.length with h | h
 ·rw [List.getElem?_eq_getElem h] at hv
  simp only [Option.map_some,Option.some.injEq] at hv;rw [Nat.zero_add,ht.signs j h,hv]
 ·rw [List.getElem?_eq_none h] at hv;cases hv
theorem XT:(Tryz.prog.info? 140).map (·.size)=some yR.length:=by kernel_rfl
theorem Y3 (l:List UInt8) (w:World) (ht:Zb w) :
  Calls Tryz.prog 67 #[.string (za l)] w fun e w'=>e=.returned (zz (Yh l))∧Below w.heap.size w w':=by
 have H:Hid (Zb w):=ht;clear ht
 go_enter Tryz.func67,Tryz.ntmps67
 go_wp2_with (refine wpList_load_mid rfl 140 _ rfl 2 0 rfl yR _ (Xe (H.out.alloc _)) Tryz.underlying140 rfl XT ?_)
 have I:Hid (∀(wx:World) (i:Nat) (h:i<25),(Instr.index 140 signsV (.int .i64 (i:Int))).run Tryz.prog wx=.ok (.string (za (signsL[i]'h))) wx):=fun wx i h=>vY wx i h
 rw [show Value.agg yR.toArray=signsV from rfl]
 generalize signsV=A at *
 go_loop [5,9] (fun vb v=>∃i:Nat,i≤25∧v=.int .i64 i∧vb=.string (za (zY l i))) (fun _ v=>25-(intOf v).toNat)
 case atStart=>exact ⟨0,Nat.zero_le _,rfl,rfl⟩
 case round =>
  obtain ⟨i,M,rfl,rfl⟩:=hrel;have B:=vZ l i;obtain ⟨b,F⟩:∃b,b=zY l i:=⟨_,rfl⟩;rw [←F] at B ⊢;have z:Hid (b=zY l i):=F;clear F
  by_cases hlt:i<25
  ·have o:=fun wx=>I.out wx i hlt
   obtain ⟨x,u⟩:∃x,x=signsL[i]'hlt:=⟨_,rfl⟩;rw [←u] at o
   have K:x.length≤2:=by
    have:∀x∈signsL,x.length≤2:=by decide
    rw [u];exact this _ (List.getElem_mem _)
   have G:Hid (zY l (i+1)=longer l b x):=show zY l (i+1)=longer l b x by rw [XS l i hlt,z.out,u]
   have J:(za x).size=x.length:=rfl;have E:(za b).size=b.length:=rfl;clear u
   by_cases hlen:b.length<x.length
   ·have q:=fun wx=>Tryz.strings_HasPrefix (za l) (za x) wx
    cases hp:Lib.hasPrefix l x with
    | true =>
     have m:Lib.hasPrefix (za l).data.toList (za x).data.toList=true:=hp;rw [m] at q;have c:Hid (zY l (i+1)=x):=show zY l (i+1)=x by rw [G.out];unfold longer;rw [if_pos ⟨hlen,hp⟩]
     clear m;go_wp2_with (go_at_call 85;refine (q _).mono ?_;rintro e w1 ⟨rfl,rfl⟩)
     refine ⟨⟨i+1,by omega,by go_num,by rw [c.out]⟩,by simp [intOf];omega⟩
    | false =>
     have m:Lib.hasPrefix (za l).data.toList (za x).data.toList=false:=hp;rw [m] at q;have c:Hid (zY l (i+1)=b):=show zY l (i+1)=b by rw [G.out];unfold longer;rw [if_neg (fun h=>by rw [hp] at h;exact absurd h.2 (by decide))]
     clear m;go_wp2_with (go_at_call 85;refine (q _).mono ?_;rintro e w1 ⟨rfl,rfl⟩)
     refine ⟨⟨i+1,by omega,by go_num,by rw [c.out]⟩,by simp [intOf];omega⟩
   ·have c:Hid (zY l (i+1)=b):=show zY l (i+1)=b by rw [G.out];unfold longer;rw [if_neg (fun h=>hlen h.1)]
    go_wp2
    refine ⟨⟨i+1,by omega,by go_num,by rw [c.out]⟩,by simp [intOf];omega⟩
  ·obtain rfl:i=25:=by omega
   have E:(za b).size=b.length:=rfl;cases b with
   | nil =>
    have D:Hid (Yh l=⟨0,[],0,0,6⟩):=by unfold Yh;rw [←z.out,if_pos rfl];rfl
    go_wp2
    refine bodyPost_ret (v:=zz ⟨0,[],0,0,6⟩) (by simp [results,Tryz.results67,go_sem,zz]) rfl ⟨by rw [D.out],?_⟩
    exact (Below.refl w.heap.size w).alloc (Nat.le_refl _) _
   | cons y ys =>
    have D:Hid (Yh l=⟨4,y::ys,0,(y::ys).length,0⟩):=by unfold Yh;rw [←z.out,if_neg (by simp)];rfl
    go_wp2
    refine bodyPost_ret (v:=zz ⟨4,y::ys,0,(y::ys).length,0⟩) (by simp [results,Tryz.results67,go_sem,zz]) rfl ⟨by rw [D.out],?_⟩
    exact (Below.refl w.heap.size w).alloc (Nat.le_refl _) _
def Yw:List UInt8→Nat × Nat
 | []=>(0,0)
 | x::r=>if x.toNat<32∨126<x.toNat then (0,0) else if x.toNat≠92 then (x.toNat,1) else
  match r with
  | []=>(0,0)
  | y::_=>if y.toNat=92 then (92,2) else if y.toNat=34 then (34,2) else if y.toNat=110 then (10,2) else (0,0)
theorem xI (w:World) (l:List UInt8) (i:Nat) (h:i<l.length):(Instr.index 9 (.string (za l)) (.int .i64 (i:Int))).run Tryz.prog w=.ok (.int .u8 ((l[i]).toNat:Int)) w:=by
 rw [run_index_string (P:=Tryz.prog) (w:=w) 9 (za l) .i64 _ Tryz.underlying9,dif_pos ⟨by omega,by rw [zs];omega⟩]
 simp only [Int.toNat_natCast]
 rfl
theorem xi {a:Nat × Nat} {c k:Nat} (h:a=(c,k)):(Ending.returned (.tuple #[.int .u8 (c:Int),.int .i64 (k:Int)]):Ending)=.returned (.tuple #[.int .u8 (a.1:Int),.int .i64 (a.2:Int)]):=by rw [h]
theorem vE {x:UInt8} {r:List UInt8} (h:x.toNat<32∨126<x.toNat):Yw (x::r)=(0,0):=by
 show (if _ then _ else _)=_;rw [if_pos h]
theorem vF {x:UInt8} {r:List UInt8} (h:¬ (x.toNat<32∨126<x.toNat)) (h2:x.toNat≠92):Yw (x::r)=(x.toNat,1):=by
 show (if _ then _ else _)=_;rw [if_neg h,if_pos h2]
theorem vG {x:UInt8} (h:¬ (x.toNat<32∨126<x.toNat)) (h2:x.toNat=92):Yw [x]=(0,0):=by
 show (if _ then _ else _)=_;rw [if_neg h,if_neg (by omega)]
def Up (m:Nat):Nat × Nat:=if m=92 then (92,2) else if m=34 then (34,2) else if m=110 then (10,2) else (0,0)
theorem vH {x y:UInt8} {t:List UInt8} (h:¬ (x.toNat<32∨126<x.toNat)) (h2:x.toNat=92):Yw (x::y::t)=Up y.toNat:=by
 show (if _ then _ else _)=_;rw [if_neg h,if_neg (by omega)];rfl
def Yp:List Nat:=[92,34,110]
def Y4:List Nat:=[92,34,10]
theorem Ud {m i:Nat} (hi:i<3) (h:∀j (hj:j<3),j<i→(Yp[j]'hj)≠m) (he:(Yp[i]'hi)=m):Up m=((Y4[i]'hi),2):=by
 have b:i=0∨i=1∨i=2:=by omega
 rcases b with rfl | rfl | rfl
 ·rw [←he];rfl
 ·rw [←he];rfl
 ·rw [←he];rfl
theorem uz {m:Nat} (h:∀j (hj:j<3),(Yp[j]'hj)≠m):Up m=(0,0):=by
 have b:92≠m:=h 0 (by decide)
 have c:34≠m:=h 1 (by decide)
 have e:110≠m:=h 2 (by decide)
 unfold Up
 rw [if_neg (by omega),if_neg (by omega),if_neg (by omega)]
theorem Xf (w:World) (i:Nat) (h:i<3):(Instr.index 151 (.agg #[.int .u8 92,.int .u8 92,.int .u8 34,.int .u8 34,.int .u8 10,.int .u8 110]) (.int .i64 (i:Int))).run Tryz.prog w=.ok (.agg #[.int .u8 ((Y4[i]'h:Nat):Int),.int .u8 ((Yp[i]'h:Nat):Int)]) w:=by
 have b:i=0∨i=1∨i=2:=by omega
 rcases b with rfl | rfl | rfl
 all_goals rfl
theorem xJ (x:UInt8) (r:List UInt8) (w:World) (hl:r.length≤9223372036854775000) (ht:Zb w) :
  Calls Tryz.prog 84 #[.string (za (x::r))] w fun e w'=>e=.returned (.tuple #[.int .u8 (Yw (x::r)).1,.int .i64 (Yw (x::r)).2])∧Below w.heap.size w w':=by
 have M:=fun wx=>xI wx (x::r) 0 (by simp)
 rw [show ((0:Nat):Int)=0 from rfl,show (x::r)[0]=x from rfl] at M
 have o:(za (x::r)).size=r.length+1:=rfl;obtain ⟨n,c⟩:∃n,n=x.toNat:=⟨_,rfl⟩;have O:n<256:=by rw [c];exact UInt8.toNat_lt x
 rw [←c] at M;obtain ⟨S,D⟩:∃S,S=za (x::r):=⟨_,rfl⟩;rw [←D] at M o ⊢;have R:=ht.escs 0 (by decide)
 have V:=ht.escs 1 (by decide)
 have e2:=ht.escs 2 (by decide)
 have U:=ht.escs 3 (by decide)
 have T:=ht.escs 4 (by decide)
 have Z:=ht.escs 5 (by decide)
 simp only [List.getElem_cons_zero,List.getElem_cons_succ] at R V e2 U T Z;clear ht
 by_cases hbad:n<32∨126<n
 ·have q:Hid (Yw (x::r)=(0,0)):=vE (by rw [←c];exact hbad)
  clear D c;rcases hbad with B | B
  ·go_enter Tryz.func84,Tryz.ntmps84
   go_wp2
   go_ret2
   exact ⟨xi q.out,Below.refl _ _⟩
  ·go_enter Tryz.func84,Tryz.ntmps84
   go_wp2
   go_ret2
   exact ⟨xi q.out,Below.refl _ _⟩
 ·by_cases h92:n=92
  ·cases r with
   | nil =>
    have q:Hid (Yw [x]=(0,0)):=vG (by rw [←c];exact hbad) (by rw [←c];exact h92)
    have aa:S.size=1:=o;clear D c hbad o;subst h92
    go_enter Tryz.func84,Tryz.ntmps84
    go_wp2
    go_ret2
    exact ⟨xi q.out,Below.refl _ _⟩
   | cons y t =>
    have X:=fun wx=>xI wx (x::y::t) 1 (by simp)
    rw [show ((1:Nat):Int)=1 from rfl,show (x::y::t)[1]=y from rfl] at X
    obtain ⟨m,H⟩:∃m,m=y.toNat:=⟨_,rfl⟩;have J:m<256:=by rw [H];exact UInt8.toNat_lt y
    rw [←H,←D] at X;have F:Hid (Yw (x::y::t)=Up m):=show _=_ by rw [H];exact vH (by rw [←c];exact hbad) (by rw [←c];exact h92)
    have W:S.size=t.length+2:=o;have Y:((t.length:Int)+2==1)=false:=by rw [beq_eq_false_iff_ne];omega
    have af:t.length+1≤9223372036854775000:=by simpa using hl
    clear D c hbad o H hl;subst h92
    go_enter Tryz.func84,Tryz.ntmps84
    go_wp2
    clear R V e2 U T Z
    go_loopw [26] (fun v wr=>∃i:Nat,i≤3∧v=.int .i64 i∧(∀j (hj:j<3),j<i→(Yp[j]'hj)≠m)∧Below w.heap.size w wr) (fun v _=>3-(intOf v).toNat)
    case atStart=>exact ⟨0,Nat.zero_le _,rfl,fun j _ h=>by omega,Below.refl _ _⟩
    case round =>
     obtain ⟨i,hi,rfl,u,A⟩:=hrel;have K:Hid (∀j (hj:j<3),j<i→(Yp[j]'hj)≠m):=u;have I:Hid (Below w.heap.size w wr):=A;have z:=A.size;clear u A
     by_cases hlt:i<3
     ·have E:=fun wx=>Xf wx i hlt
      obtain ⟨a,G⟩:∃a,a=Y4[i]'hlt:=⟨_,rfl⟩;obtain ⟨b,B⟩:∃b,b=Yp[i]'hlt:=⟨_,rfl⟩;rw [←G,←B] at E
      by_cases he:b=m
      ·have q:Hid (Yw (x::y::t)=(a,2)):=show _=_ by rw [F.out,G];exact Ud hlt K.out (by rw [←B];exact he)
       subst he;clear G B;go_wp2
       go_quiet (fail)
       go_wp2
       go_ret2
       refine ⟨xi q.out,?_⟩;exact (I.out.alloc z _).trans ⟨rfl,rfl,rfl,Nat.le_refl _,fun _ _=>rfl⟩
      ·have ae:((b:Int)==(m:Int))=false:=by rw [beq_eq_false_iff_ne];omega
       have HE:Hid ((Yp[i]'hlt)≠m):=show (Yp[i]'hlt)≠m by rw [←B];exact he
       clear G B he;go_wp2
       go_quiet (fail)
       go_wp2
       refine ⟨⟨i+1,by omega,by go_num,fun j hj hji=>?_,(I.out.alloc z _).trans ⟨rfl,rfl,rfl,Nat.le_refl _,fun _ _=>rfl⟩⟩,by simp [intOf];omega⟩
       by_cases h:j<i
       ·exact K.out j hj h
       ·obtain rfl:j=i:=by omega
        exact HE.out
     ·obtain rfl:i=3:=by omega
      have q:Hid (Yw (x::y::t)=(0,0)):=show _=_ by rw [F.out];exact uz (fun j hj=>K.out j hj hj)
      go_wp2
      go_ret2
      exact ⟨xi q.out,I.out⟩
  ·have q:Hid (Yw (x::r)=(n,1)):=show Yw (x::r)=(n,1) by rw [c];exact vF (by rw [←c];exact hbad) (by rw [←c];exact h92)
   have ad:32≤n:=by omega
   have ab:n≤126:=by omega
   clear D c hbad
   go_enter Tryz.func84,Tryz.ntmps84
   go_wp2
   go_ret2
   exact ⟨xi q.out,Below.refl _ _⟩
def YD:Nat→List UInt8→Nat→List UInt8→TR
 | 0,_,_,_=>⟨0,[],0,0,6⟩
 | _+1,_,_,[]=>⟨0,[],0,0,6⟩
 | f+1,meant,at0,x::r=>if x.toNat=34 then ⟨3,meant,0,at0+1,0⟩ else if (Yw (x::r)).2=0 then ⟨0,[],0,0,6⟩ else if meant.length=255 then ⟨0,[],0,0,5⟩
  else YD f (meant++[(Yw (x::r)).1.toUInt8]) (at0+(Yw (x::r)).2) ((x::r).drop (Yw (x::r)).2)
def ZJ (l:List UInt8):TR:=YD l.length [] 1 (l.drop 1)
theorem Ue (l:List UInt8):(Yw l).2≤l.length∧(Yw l).1<256:=by
 cases l with
 | nil=>exact ⟨Nat.le_refl _,by decide⟩
 | cons x r =>
  by_cases h:x.toNat<32∨126<x.toNat
  ·rw [vE h];simp
  ·by_cases h2:x.toNat=92
   ·cases r with
    | nil=>rw [vG h h2];simp
    | cons y t =>
     rw [vH h h2]
     unfold Up
     split
     ·simp
     ·split
      ·simp
      ·split <;> simp
   ·rw [vF h h2]
    have:=UInt8.toNat_lt x
    simp;omega
abbrev Zw:Obj:=Obj.cells #[Value.int IntKind.i64 0,Value.string ⟨#[]⟩,Value.int IntKind.i64 0,Value.int IntKind.i64 0,Value.int IntKind.i64 0] 103
theorem ZK {w w1:World} (hb:Below (w.heap.size+1) (w.alloc Zw) w1) :
  (∀o,w1.cell? ⟨w.heap.size,o,none⟩=(w.alloc Zw).cell? ⟨w.heap.size,o,none⟩)∧(∀o,w1.frozen? ⟨w.heap.size,o,none⟩=(w.alloc Zw).frozen? ⟨w.heap.size,o,none⟩) :=
 ⟨fun o=>hb.cell (p:=⟨w.heap.size,o,none⟩) (by simp),fun o=>hb.frozen (p:=⟨w.heap.size,o,none⟩) (by simp)⟩
theorem zI {w w1:World} (h:Below w.heap.size w w1) (a b c d e:Value) :
  Below w.heap.size w (((((w1.setCell ⟨w.heap.size,0,none⟩ a).setCell ⟨w.heap.size,1,none⟩ b).setCell ⟨w.heap.size,2,none⟩ c).setCell ⟨w.heap.size,3,none⟩ d).setCell ⟨w.heap.size,4,none⟩ e) :=
 ((((h.setCell (p:=⟨w.heap.size,0,none⟩) (Nat.le_refl _) _).setCell (p:=⟨w.heap.size,1,none⟩) (Nat.le_refl _) _).setCell (p:=⟨w.heap.size,2,none⟩) (Nat.le_refl _) _).setCell (p:=⟨w.heap.size,3,none⟩) (Nat.le_refl _) _).setCell (p:=⟨w.heap.size,4,none⟩) (Nat.le_refl _) _
theorem yS {w w':World} {B C e n:Nat} {v:Value} {xs:List Value} (h:w.ownsRow B e 1 v n xs) (hb:Below C w w') (hC:w.heap.size≤C):w'.ownsRow B e 1 v n xs :=
 h.kept (row:=none) ⟨hb.os,hb.tape,hb.output,hb.size,fun k hk _=>hb.block k (by omega)⟩ (by cases h':v.ownBlock <;> simp)
theorem Y5 (l:List UInt8) (w:World) (hl:l.length≤140737488351232) (hl1:1≤l.length) (ht:Zb w) :
  Calls Tryz.prog 66 #[.string (za l)] w fun e w'=>e=.returned (zz (ZJ l))∧Below w.heap.size w w':=by
 have HT:Hid (Zb w):=ht;have az:(za l).size=l.length:=rfl;have hA:Below w.heap.size w (w.alloc Zw):=(Below.refl w.heap.size w).alloc (Nat.le_refl _) _;have HA:Hid (Below w.heap.size w (w.alloc Zw)):=hA;clear ht hA
 go_enter Tryz.func66,Tryz.ntmps66
 go_wp2
 go_loopw [5,6] (fun vm va wr=>∃(f at0:Nat) (b:List UInt8),va=.int .i64 at0∧at0≤l.length∧l.length≤at0+f∧b.length≤255∧ZJ l=YD f b at0 (l.drop at0) ∧
   wr.ownsRow (w.heap.size+1) 5 1 vm b.length (Lib.byteCells b)∧Below (w.heap.size+1) (w.alloc Zw) wr) (fun _ a _=>l.length-(intOf a).toNat)
 case atStart=>exact ⟨l.length,1,[],rfl,hl1,by omega,by simp,rfl,World.ownsRow_nil _ _ _ _,Below.refl _ _⟩
 case round =>
  obtain ⟨f,at0,b,rfl,aA,ay,ar,ai,O,E⟩:=hrel;have Z:Hid (ZJ l=YD f b at0 (l.drop at0)):=ai;have Y:Hid (Below (w.heap.size+1) (w.alloc Zw) wr):=E;have HB:Hid (Below w.heap.size w wr):=HA.out.trans (E.mono (by omega))
  have M:=E.size;rw [World.size_alloc] at M;obtain ⟨y,aa⟩:=ZK E;have HO:Hid (wr.ownsRow (w.heap.size+1) 5 1 u5 b.length (Lib.byteCells b)):=O;clear ai E O
  by_cases hlt:at0<l.length
  ·obtain ⟨x,r,u⟩:∃x r,l.drop at0=x::r:=⟨l[at0],l.drop (at0+1),List.drop_eq_getElem_cons hlt⟩
   have ah:l[at0]=x:=by
    have h:=List.drop_eq_getElem_cons hlt;rw [u] at h;exact (List.cons.inj h).1.symm
   have K:=fun wx=>xI wx l at0 hlt
   rw [ah] at K;obtain ⟨n,hn⟩:∃n,n=x.toNat:=⟨_,rfl⟩;rw [←hn] at K;have aq:n<256:=by rw [hn];exact UInt8.toNat_lt x
   obtain ⟨X,rfl⟩:∃X,f=X+1:=⟨f-1,by omega⟩
   have ag:Hid (ZJ l=if n=34 then ⟨3,b,0,at0+1,0⟩ else if (Yw (x::r)).2=0 then ⟨0,[],0,0,6⟩ else if b.length=255 then ⟨0,[],0,0,5⟩ else YD X (b++[(Yw (x::r)).1.toUInt8]) (at0+(Yw (x::r)).2) ((x::r).drop (Yw (x::r)).2)):=show _=_ by
    rw [Z.out,u,hn];rfl
   have al:=fun wx=>VJ wx l at0 (by omega)
   rw [u] at al;have aj:(x::r).length=l.length-at0:=by rw [←u,List.length_drop]
   have am:Hid (l.drop at0=x::r):=u;clear ah hn u
   by_cases h34:n=34
   ·have J:Hid (ZJ l=⟨3,b,0,at0+1,0⟩):=show _=_ by rw [ag.out,if_pos h34]
    subst h34;obtain ⟨o,D,rfl,B,-,-,-⟩:=Zj HO.out;have aB:=Zq wr o b D B;clear B;go_wp2
    refine bodyPost_ret (v:=zz ⟨3,b,0,at0+1,0⟩) (by simp [results,Tryz.results66,go_sem,zz,y]) rfl ⟨by rw [J.out],?_⟩
    exact zI HB.out _ _ _ _ _
   ·have aw:((n:Int)==34)=false:=by rw [beq_eq_false_iff_ne];omega
    have z:=Ue (x::r);have cb:=xJ x r wr (by simp at aj;omega) (HT.out.below HB.out (Nat.le_refl _))
    obtain ⟨c,G,U⟩:∃c G,Yw (x::r)=(c,G):=⟨_,_,rfl⟩;rw [U] at cb z;simp only at z
    have V:Hid (ZJ l=if G=0 then ⟨0,[],0,0,6⟩ else if b.length=255 then ⟨0,[],0,0,5⟩ else YD X (b++[c.toUInt8]) (at0+G) ((x::r).drop G)):=show _=_ by
     rw [ag.out,if_neg h34,U]
    clear U h34;go_wp2_with fail
    refine cb.mono ?_;clear cb y aa;rintro e w2 ⟨rfl,H⟩;have av:=H.size;have I:Below (w.heap.size+1) (w.alloc Zw) w2:=Y.out.trans (H.mono M);obtain ⟨y,aa⟩:=ZK I;have ap:Hid (Below (w.heap.size+1) (w.alloc Zw) w2):=I;have ae:Hid (Below w.heap.size w w2):=HA.out.trans (I.mono (by omega))
    have T:Hid (w2.ownsRow (w.heap.size+1) 5 1 u5 b.length (Lib.byteCells b)):=yS HO.out H (Nat.le_refl _);clear H I HO Y
    by_cases hs0:G=0
    ·have J:Hid (ZJ l=⟨0,[],0,0,6⟩):=show _=_ by rw [V.out,if_pos hs0]
     subst hs0;go_wp2
     refine bodyPost_ret (v:=zz ⟨0,[],0,0,6⟩) (by simp [results,Tryz.results66,go_sem,zz,y]) rfl ⟨by rw [J.out],?_⟩
     exact zI ae.out _ _ _ _ _
    ·have ax:((G:Int)==0)=false:=by rw [beq_eq_false_iff_ne];omega
     obtain ⟨o,D,rfl,-,-,-,-⟩:=Zj T.out;obtain ⟨W,m⟩:∃W,W=b.length:=⟨_,rfl⟩;have af:Hid (W=b.length):=m;rw [←m]
     by_cases h255:W=255
     ·have J:Hid (ZJ l=⟨0,[],0,0,5⟩):=show _=_ by rw [V.out,if_neg hs0,if_pos (by rw [←m];exact h255)]
      clear m;subst h255;go_wp2
      refine bodyPost_ret (v:=zz ⟨0,[],0,0,5⟩) (by simp [results,Tryz.results66,go_sem,zz,y]) rfl ⟨by rw [J.out],?_⟩
      exact zI ae.out _ _ _ _ _
     ·have an:((W:Int)==255)=false:=by rw [beq_eq_false_iff_ne];omega
      have J:Hid (ZJ l=YD X (b++[c.toUInt8]) (at0+G) (l.drop (at0+G))):=show _=_ by
       rw [V.out,if_neg hs0,if_neg (by rw [←m];exact h255),←am.out,List.drop_drop]
      have ad:Hid (w2.ownsRow (w.heap.size+1) 5 1 (.slice o W D) b.length (Lib.byteCells b)):=by rw [m];exact T.out
      have R:=z.2;have ab:=z.1;rw [aj] at ab;have au:b.length≤255:=ar;clear m T z
      go_wp2_with (at_builtin;refine Zk rfl _ _ rfl (w.heap.size+1) _ b rfl (ad.out.alloc _) _ [c.toUInt8] rfl (Z2 R (by simp)) (by simp;omega) (by simp;omega) ?_)
      intro v3 w3 A F;have ak:Hid (Below (w.heap.size+1) (w.alloc Zw) w3):=(ap.out.alloc (by omega) _).grown F (by simp;omega) (fun q hq=>(ad.out.lt q hq).1)
      have ao:Hid (w3.ownsRow (w.heap.size+1) 5 1 v3 (b++[c.toUInt8]).length (Lib.byteCells (b++[c.toUInt8]))):=by
       rw [show (b++[c.toUInt8]).length=b.length+1 by simp];exact A
      clear F A;go_wp2
      refine ⟨⟨X,at0+G,b++[c.toUInt8],by go_num,by omega,by omega,?_,J.out,ao.out,ak.out⟩,by simp [intOf];omega⟩
      rw [List.length_append,List.length_singleton,←af.out]
      have:=af.out
      omega
  ·obtain rfl:at0=l.length:=by omega
   have J:Hid (ZJ l=⟨0,[],0,0,6⟩):=show _=_ by
    rw [Z.out,List.drop_length];cases f <;> rfl
   go_wp2
   refine bodyPost_ret (v:=zz ⟨0,[],0,0,6⟩) (by simp [results,Tryz.results66,go_sem,zz,y]) rfl ⟨by rw [J.out],?_⟩
   exact zI HB.out _ _ _ _ _
def yx (l:List UInt8):TR :=
 match l with
 | []=>⟨0,[],0,0,0⟩
 | x::_=>if ZT x.toNat=true then yq l else if zA x.toNat=true then Xd l else if x.toNat=34 then ZJ l else Yh l
theorem uA {x:UInt8} {r:List UInt8} (h:zA x.toNat=true):digL (x::r)≠[]:=by
 unfold digL;simp [h]
theorem v7 (l:List UInt8) (w:World) (hl:l.length≤140737488351232) (ht:Zb w) :
  Calls Tryz.prog 53 #[.string (za l)] w fun e w'=>e=.returned (zz (yx l))∧Below w.heap.size w w':=by
 have I:Below w.heap.size w (w.alloc Zw):=(Below.refl w.heap.size w).alloc (Nat.le_refl _) _;have G:Hid (Below w.heap.size w (w.alloc Zw)):=I;have H:Hid (Zb (w.alloc Zw)):=ht.alloc _;clear ht I;cases l with
 | nil =>
  go_enter Tryz.func53,Tryz.ntmps53
  go_wp2
  refine bodyPost_ret (v:=zz ⟨0,[],0,0,0⟩) (by simp [results,Tryz.results53,go_sem,zz]) rfl ⟨rfl,?_⟩
  exact G.out
 | cons x r =>
  have A:=fun wx=>xI wx (x::r) 0 (by simp)
  rw [show ((0:Nat):Int)=0 from rfl,show (x::r)[0]=x from rfl] at A
  obtain ⟨n,F⟩:∃n,n=x.toNat:=⟨_,rfl⟩;rw [←F] at A;have u:n<256:=by rw [F];exact UInt8.toNat_lt x
  have y:Hid (yx (x::r)=if ZT n=true then yq (x::r) else if zA n=true then Xd (x::r) else if n=34 then ZJ (x::r) else Yh (x::r)):=show _=_ by rw [F];rfl
  have U:Hid (zA n=true→digL (x::r)≠[]):=fun h=>uA (by rw [←F];exact h)
  have T:¬ (x::r)=[]:=by simp
  clear F
  go_enter Tryz.func53,Tryz.ntmps53
  have O:(x::r).length≤140737488351232:=hl;have z:Hid (∀(R:TR) (w1:World),Below (w.alloc Zw).heap.size (w.alloc Zw) w1→Below (w.heap.size+1) (w.alloc Zw) w1):=fun R w1 h=>by rw [World.size_alloc] at h;exact h
  have K:=Zr n u (w.alloc Zw);go_wp2_with fail
  refine K.mono ?_;clear K;rintro e w1 ⟨rfl,rfl⟩;cases h1:ZT n with
  | true =>
   obtain ⟨R,q⟩:∃R,R=yq (x::r):=⟨_,rfl⟩;have m:=Y2 (x::r) (w.alloc Zw) (by omega) H.out
   rw [←q] at m;have E:Hid (yx (x::r)=R):=show _=_ by rw [y.out,if_pos h1,q]
   unfold zz at m
   clear q;go_wp2_with fail
   refine m.mono ?_;clear m;rintro e w1 ⟨rfl,c⟩;have b:=z.out R w1 c;obtain ⟨o,D⟩:=ZK b;have B:Hid (Below w.heap.size w w1):=G.out.trans (b.mono (by omega))
   clear c b;go_wp2
   refine bodyPost_ret (v:=zz R) (by simp [results,Tryz.results53,go_sem,zz,o]) rfl ⟨by rw [E.out],?_⟩
   exact zI B.out _ _ _ _ _
  | false =>
   have J:=Z3 n u (w.alloc Zw);go_wp2_with fail
   refine J.mono ?_;clear J;rintro e w1 ⟨rfl,rfl⟩;cases h2:zA n with
   | true =>
    obtain ⟨R,q⟩:∃R,R=Xd (x::r):=⟨_,rfl⟩;have m:=Yo (x::r) (w.alloc Zw) (by omega) (U.out h2) H.out
    rw [←q] at m;have E:Hid (yx (x::r)=R):=show _=_ by rw [y.out,if_neg (by rw [h1];simp),if_pos h2,q]
    unfold zz at m
    clear q;go_wp2_with fail
    refine m.mono ?_;clear m;rintro e w1 ⟨rfl,c⟩;have b:=z.out R w1 c;obtain ⟨o,D⟩:=ZK b;have B:Hid (Below w.heap.size w w1):=G.out.trans (b.mono (by omega))
    clear c b;go_wp2
    refine bodyPost_ret (v:=zz R) (by simp [results,Tryz.results53,go_sem,zz,o]) rfl ⟨by rw [E.out],?_⟩
    exact zI B.out _ _ _ _ _
   | false =>
    by_cases h34:n=34
    ·obtain ⟨R,q⟩:∃R,R=ZJ (x::r):=⟨_,rfl⟩
     have m:=Y5 (x::r) (w.alloc Zw) (by omega) (by simp) H.out
     rw [←q] at m;have E:Hid (yx (x::r)=R):=show _=_ by rw [y.out,if_neg (by rw [h1];simp),if_neg (by rw [h2];simp),if_pos h34,q]
     subst h34
     unfold zz at m
     clear q;go_wp2_with fail
     refine m.mono ?_;clear m;rintro e w1 ⟨rfl,c⟩;have b:=z.out R w1 c;obtain ⟨o,D⟩:=ZK b;have B:Hid (Below w.heap.size w w1):=G.out.trans (b.mono (by omega))
     clear c b;go_wp2
     refine bodyPost_ret (v:=zz R) (by simp [results,Tryz.results53,go_sem,zz,o]) rfl ⟨by rw [E.out],?_⟩
     exact zI B.out _ _ _ _ _
    ·obtain ⟨R,q⟩:∃R,R=Yh (x::r):=⟨_,rfl⟩
     have M:((n:Int)==34)=false:=by rw [beq_eq_false_iff_ne];omega
     have m:=Y3 (x::r) (w.alloc Zw) H.out;rw [←q] at m;have E:Hid (yx (x::r)=R):=show _=_ by rw [y.out,if_neg (by rw [h1];simp),if_neg (by rw [h2];simp),if_neg h34,q]
     unfold zz at m
     clear q;go_wp2_with fail
     refine m.mono ?_;clear m;rintro e w1 ⟨rfl,c⟩;have b:=z.out R w1 c;obtain ⟨o,D⟩:=ZK b;have B:Hid (Below w.heap.size w w1):=G.out.trans (b.mono (by omega))
     clear c b;go_wp2
     refine bodyPost_ret (v:=zz R) (by simp [results,Tryz.results53,go_sem,zz,o]) rfl ⟨by rw [E.out],?_⟩
     exact zI B.out _ _ _ _ _
end Go.Proofs.YtbjndgachcdbcaaGreatDoor

import Derived.Test.YtbjndgachcdbcaaGreatDoorMC1
import Derived.Test.YtbjndgachcdbcaaGreatDoorWAll
import Derived.Deep.MidRow
import Derived.LoopN
namespace Go.Proofs.YtbjndgachcdbcaaGreatDoor
open Go.RowKit
set_option maxHeartbeats 16000000
set_option maxRecDepth 100000
structure TR where
 k:Nat
 s:List UInt8
 n:Nat
 sz:Nat
 e:Nat
def zB (r:TR):Value:=.tuple #[.agg #[.int .i64 r.k,.string (za r.s),.int .i64 r.n,.int .i64 0,.int .i64 0],.int .i64 r.sz,.int .i64 r.e]
def ZD (l:List UInt8):List UInt8:=l.takeWhile fun c=>xb c.toNat
def ym (l:List UInt8):TR:=if ZH (ZD l)=true then ⟨5,ZD l,0,(ZD l).length,0⟩ else if 20<(ZD l).length then ⟨0,[],0,0,5⟩ else ⟨1,ZD l,0,(ZD l).length,0⟩
theorem xU (p:UInt8→Bool) (l:List UInt8):l.take (l.takeWhile p).length=l.takeWhile p:=by
 induction l with
 | nil=>rfl
 | cons x l ih =>
  by_cases h:p x=true
  ·simp [h,ih]
  ·simp [h]
theorem VE (l:List UInt8):(ZD l).length≤l.length:=(List.takeWhile_sublist _).length_le
theorem Ze.alloc {w:World} (h:Ze w) (o:Obj):Ze (w.alloc o) :=
 ⟨fun j hj=>Lib.cell?_alloc_some o (h.words j hj),fun j hj=>Lib.cell?_alloc_some o (h.signs j hj),fun j hj=>Lib.cell?_alloc_some o (h.escs j hj),by obtain ⟨a,b,c⟩:=h.range;exact ⟨a,b,Lib.cell?_alloc_some o c⟩⟩
theorem Ze.below {w w':World} {B:Nat} (h:Ze w) (hb:Below B w w') (hB:w.heap.size≤B):Ze w':=by
 have e:∀{p:Addr} {v:Value},w.cell? p=some v→w'.cell? p=some v:=fun {p v} hp=>by
  rw [hb.cell (Nat.lt_of_lt_of_le (World.block_lt_of_cell? w _ hp) hB)];exact hp
 exact ⟨fun j hj=>e (h.words j hj),fun j hj=>e (h.signs j hj),fun j hj=>e (h.escs j hj),by obtain ⟨a,b,c⟩:=h.range;exact ⟨a,b,e c⟩⟩
theorem YZ (l:List UInt8) (w:World) (hl:l.length≤9223372036854775000) (ht:Ze w) :
  Calls Tryz.prog 63 #[.string (za l)] w fun e w'=>e=.returned (zB (ym l))∧Below w.heap.size w w':=by
 have B:Hid (Ze w):=ht;have u:=VE l;obtain ⟨m,q⟩:∃m,m=(ZD l).length:=⟨_,rfl⟩;rw [←q] at u;have b:=fun wx=>XK wx l m u
 rw [show l.take m=ZD l by rw [q];exact xU _ l] at b
 have c:Hid (m=(ZD l).length):=q;clear ht
 have D:Hid (∀wx,Calls Tryz.prog 80 #[.string (za l),.func (.func 81) #[] #[]] wx fun e w'=>e=.returned (.int .i64 m)∧wx=w'):=fun wx=>by
  rw [q];exact VB l wx hl
 have A:Hid (∀wx,Ze wx→Calls Tryz.prog 82 #[.string (za (ZD l))] wx fun e w'=>e=.returned (.bool (ZH (ZD l)))∧wx=w'):=fun wx h=>VD _ wx h
 clear q;have E:=(Below.refl w.heap.size w).alloc (Nat.le_refl _);obtain ⟨x,y⟩:∃x,x=ZD l:=⟨_,rfl⟩;rw [←y] at b A c;have z:Hid (x=ZD l):=y;clear y
 go_enter Tryz.func63,Tryz.ntmps63
 go_wp2_with fail
 refine (D.out _).mono ?_;rintro e w1 ⟨rfl,rfl⟩;go_wp2_with fail
 refine (A.out _ (B.out.alloc _)).mono ?_;rintro e w1 ⟨rfl,rfl⟩;cases hq:ZH x with
 | true =>
  have o:Hid (ym l=⟨5,x,0,m,0⟩):=by unfold ym;rw [←z.out,if_pos hq,←c.out];rfl
  go_wp2
  refine bodyPost_ret (v:=zB ⟨5,x,0,m,0⟩) (by simp [results,Tryz.results63,go_sem,zB]) rfl ⟨by rw [o.out],?_⟩
  exact (Below.refl w.heap.size w).alloc (Nat.le_refl _) _
 | false =>
  by_cases h20:20<m
  ·have o:Hid (ym l=⟨0,[],0,0,5⟩):=by unfold ym;rw [←z.out,if_neg (by rw [hq];simp),if_pos (by rw [←c.out];exact h20)];rfl
   go_wp2
   refine bodyPost_ret (v:=zB ⟨0,[],0,0,5⟩) (by simp [results,Tryz.results63,go_sem,zB]) rfl ⟨by rw [o.out],?_⟩
   exact (Below.refl w.heap.size w).alloc (Nat.le_refl _) _
  ·have o:Hid (ym l=⟨1,x,0,m,0⟩):=by unfold ym;rw [←z.out,if_neg (by rw [hq];simp),if_neg (by rw [←c.out];exact h20),←c.out];rfl
   go_wp2
   refine bodyPost_ret (v:=zB ⟨1,x,0,m,0⟩) (by simp [results,Tryz.results63,go_sem,zB]) rfl ⟨by rw [o.out],?_⟩
   exact (Below.refl w.heap.size w).alloc (Nat.le_refl _) _
def valA (acc:Nat):List UInt8→Nat
 | []=>acc
 | c::r=>valA (acc*10+(c.toNat-48)) r
theorem vv:∀(r:List UInt8) (acc:Nat),acc≤valA acc r
 | [],_=>Nat.le_refl _
 | c::r,acc=>Nat.le_trans (by omega) (vv r (acc*10+(c.toNat-48)))
theorem xB (ds:List UInt8):∀(b:Nat),(∀c∈ds,zC c.toNat=true)→b<18446744073709551616 →
  Lib.parseUint10 b ds=if valA b ds<18446744073709551616 then .ok (valA b ds) else .range:=by
 induction ds with
 | nil =>
  intro b _ m;rw [show valA b []=b from rfl,if_pos m]
  rfl
 | cons c r ih =>
  intro b h m;have e:=h c (List.mem_cons_self ..)
  unfold zC at e
  rw [Bool.and_eq_true,decide_eq_true_eq,decide_eq_true_eq] at e;have o:=vv r (b*10+(c.toNat-48));rw [show valA b (c::r)=valA (b*10+(c.toNat-48)) r from rfl]
  unfold Lib.parseUint10
  rw [if_pos e]
  by_cases h1:1844674407370955162≤b
  ·rw [if_pos h1,if_neg (by omega)]
  ·rw [if_neg h1]
   by_cases h2:18446744073709551616≤b*10+(c.toNat-48)
   ·rw [if_pos h2,if_neg (by omega)]
   ·rw [if_neg h2]
    exact ih _ (fun d hd=>h d (List.mem_cons_of_mem _ hd)) (by omega)
theorem xV {ds:List UInt8} (h:∀c∈ds,zC c.toNat=true) (hne:ds≠[]) :
  Lib.atoiAll ds=if valA 0 ds<9223372036854775808 then .ok (valA 0 ds:Int) else .range:=by
 cases ds with
 | nil=>exact absurd rfl hne
 | cons c r =>
  have m:=h c (List.mem_cons_self ..)
  unfold zC at m
  rw [Bool.and_eq_true,decide_eq_true_eq,decide_eq_true_eq] at m;have o:¬ (c.toNat=43∨c.toNat=45):=by omega
  have b:¬ c.toNat=45:=by omega
  have e:Lib.parseMag (c::r)=if valA 0 (c::r)<18446744073709551616 then .ok (valA 0 (c::r)) else .range:=by
   unfold Lib.parseMag;rw [if_neg (by simp)];exact xB _ 0 h (by omega)
  generalize valA 0 (c::r)=v at e ⊢;have q:(if c.toNat=43∨c.toNat=45 then r else c::r)=c::r:=if_neg o
  unfold Lib.atoiAll
  simp only [q];rw [e]
  by_cases h3:v<18446744073709551616
  ·rw [if_pos h3]
   by_cases h4:v<9223372036854775808
   ·simp only
    rw [if_neg (by omega),if_neg (by omega),if_neg b,if_pos h4]
   ·simp only
    rw [if_pos ⟨b,by omega⟩,if_neg h4]
  ·rw [if_neg h3,if_neg (by omega)]
theorem vw {p:UInt8→Bool}:∀(l:List UInt8) (c:UInt8),c∈l.takeWhile p→p c=true
 | [],c,h=>by simp at h
 | x::l,c,h=>by
  by_cases hx:p x=true
  ·rw [List.takeWhile_cons_of_pos hx] at h
   rcases List.mem_cons.1 h with rfl | h
   ·exact hx
   ·exact vw l c h
  ·rw [List.takeWhile_cons_of_neg hx] at h
   simp at h
def digL (l:List UInt8):List UInt8:=l.takeWhile fun c=>zC c.toNat
def xW (l:List UInt8):TR:=if valA 0 (digL l)<9223372036854775808 then ⟨2,[],valA 0 (digL l),(digL l).length,0⟩ else ⟨0,[],0,0,5⟩
theorem uo (l:List UInt8):(digL l).length≤l.length:=(List.takeWhile_sublist _).length_le
theorem VF (l:List UInt8):∀c∈digL l,zC c.toNat=true:=fun c hc=>vw (p:=fun c=>zC c.toNat) l c hc
theorem Yn (l:List UInt8) (w:World) (hl:l.length≤140737488351232) (hne:digL l≠[]) (ht:Ze w) :
  Calls Tryz.prog 65 #[.string (za l)] w fun e w'=>e=.returned (zB (xW l))∧Below w.heap.size w w':=by
 have V:Hid (Ze w):=ht;have z:=uo l;obtain ⟨m,y⟩:∃m,m=(digL l).length:=⟨_,rfl⟩;rw [←y] at z;have u:=fun wx=>XK wx l m z
 rw [show l.take m=digL l by rw [y];exact xU _ l] at u
 have F:Hid (m=(digL l).length):=y;have U:m≤140737488351232:=by omega
 clear ht
 have W:Hid (∀wx,Calls Tryz.prog 80 #[.string (za l),.func (.func 64) #[] #[]] wx fun e w'=>e=.returned (.int .i64 m)∧wx=w'):=fun wx=>by
  rw [y];exact vP l wx (by omega)
 have c:=xV (VF l) hne;obtain ⟨x,I⟩:∃x,x=digL l:=⟨_,rfl⟩;rw [←I] at u F c;obtain ⟨v,K⟩:∃v,v=valA 0 x:=⟨_,rfl⟩;rw [←K] at c;have O:Hid (x=digL l):=I;have R:Hid (v=valA 0 x):=K;have B:Hid (Lib.atoiAll x=if v<9223372036854775808 then .ok (v:Int) else .range):=c
 clear I K c y
 go_enter Tryz.func65,Tryz.ntmps65
 go_wp2_with fail
 refine (W.out _).mono ?_;rintro e w1 ⟨rfl,rfl⟩
 by_cases h63:v<9223372036854775808
 ·have E:=fun wx=>Tryz.strconv_Atoi_ok (za x) (by rw [zt,←F.out];omega) v (by show Lib.atoiAll x=_;rw [B.out,if_pos h63]) wx
  have H:Hid (xW l=⟨2,[],v,m,0⟩):=by unfold xW;rw [←O.out,←R.out,if_pos h63,←F.out];rfl
  go_wp2_with fail
  refine (E _).mono ?_;clear E;rintro e w1 ⟨rfl,q⟩
  have b:Below (w.heap.size+1) (w.alloc (Obj.cells #[Value.int IntKind.i64 0,Value.string ⟨#[]⟩,Value.int IntKind.i64 0,Value.int IntKind.i64 0,Value.int IntKind.i64 0] 103)) w1:=by
   rcases q with rfl | ⟨t,rfl⟩
   ·exact Below.refl _ _
   ·have D:=Lib.bytesWorld_below (w.alloc (Obj.cells #[Value.int IntKind.i64 0,Value.string ⟨#[]⟩,Value.int IntKind.i64 0,Value.int IntKind.i64 0,Value.int IntKind.i64 0] 103)) 5 t
    rw [World.size_alloc] at D;exact D
  clear q
  obtain ⟨h,J⟩:(∀o,w1.cell? ⟨w.heap.size,o,none⟩=(w.alloc (Obj.cells #[Value.int IntKind.i64 0,Value.string ⟨#[]⟩,Value.int IntKind.i64 0,Value.int IntKind.i64 0,Value.int IntKind.i64 0] 103)).cell? ⟨w.heap.size,o,none⟩)∧(∀o,w1.frozen? ⟨w.heap.size,o,none⟩=(w.alloc (Obj.cells #[Value.int IntKind.i64 0,Value.string ⟨#[]⟩,Value.int IntKind.i64 0,Value.int IntKind.i64 0,Value.int IntKind.i64 0] 103)).frozen? ⟨w.heap.size,o,none⟩) :=
   ⟨fun o=>b.cell (p:=⟨w.heap.size,o,none⟩) (by simp),fun o=>b.frozen (p:=⟨w.heap.size,o,none⟩) (by simp)⟩
  have G:Hid (Below w.heap.size w w1):=((Below.refl w.heap.size w).alloc (Nat.le_refl _) _).trans (b.mono (by omega))
  clear b;go_wp2
  refine bodyPost_ret (v:=zB ⟨2,[],v,m,0⟩) (by simp [results,Tryz.results65,go_sem,zB,h]) rfl ⟨by rw [H.out],?_⟩
  exact ((((G.out.setCell (p:=⟨w.heap.size,0,none⟩) (Nat.le_refl _) _).setCell (p:=⟨w.heap.size,1,none⟩) (Nat.le_refl _) _).setCell (p:=⟨w.heap.size,2,none⟩) (Nat.le_refl _) _).setCell (p:=⟨w.heap.size,3,none⟩) (Nat.le_refl _) _).setCell (p:=⟨w.heap.size,4,none⟩) (Nat.le_refl _) _
 ·obtain ⟨T,M,A⟩:=V.out.range
  have E:=Tryz.strconv_Atoi_range (za x) (by rw [zt,←F.out];omega) (by show Lib.atoiAll x=_;rw [B.out,if_neg h63]) (.iface T M) (w.alloc (Obj.cells #[Value.int IntKind.i64 0,Value.string ⟨#[]⟩,Value.int IntKind.i64 0,Value.int IntKind.i64 0,Value.int IntKind.i64 0] 103)) (Lib.cell?_alloc_some _ A) (.inr ⟨T,M,rfl⟩)
  have H:Hid (xW l=⟨0,[],0,0,5⟩):=by unfold xW;rw [←O.out,←R.out,if_neg h63];rfl
  go_wp2_with fail
  refine E.mono ?_;clear E;rintro e w1 ⟨X,rfl,-,-,b⟩;rw [World.size_alloc] at b
  obtain ⟨h,J⟩:(∀o,w1.cell? ⟨w.heap.size,o,none⟩=(w.alloc (Obj.cells #[Value.int IntKind.i64 0,Value.string ⟨#[]⟩,Value.int IntKind.i64 0,Value.int IntKind.i64 0,Value.int IntKind.i64 0] 103)).cell? ⟨w.heap.size,o,none⟩)∧(∀o,w1.frozen? ⟨w.heap.size,o,none⟩=(w.alloc (Obj.cells #[Value.int IntKind.i64 0,Value.string ⟨#[]⟩,Value.int IntKind.i64 0,Value.int IntKind.i64 0,Value.int IntKind.i64 0] 103)).frozen? ⟨w.heap.size,o,none⟩) :=
   ⟨fun o=>b.cell (p:=⟨w.heap.size,o,none⟩) (by simp),fun o=>b.frozen (p:=⟨w.heap.size,o,none⟩) (by simp)⟩
  have G:Hid (Below w.heap.size w w1):=((Below.refl w.heap.size w).alloc (Nat.le_refl _) _).trans (b.mono (by omega))
  clear b A;go_wp2
  refine bodyPost_ret (v:=zB ⟨0,[],0,0,5⟩) (by simp [results,Tryz.results65,go_sem,zB,h]) rfl ⟨by rw [H.out],?_⟩
  exact ((((G.out.setCell (p:=⟨w.heap.size,0,none⟩) (Nat.le_refl _) _).setCell (p:=⟨w.heap.size,1,none⟩) (Nat.le_refl _) _).setCell (p:=⟨w.heap.size,2,none⟩) (Nat.le_refl _) _).setCell (p:=⟨w.heap.size,3,none⟩) (Nat.le_refl _) _).setCell (p:=⟨w.heap.size,4,none⟩) (Nat.le_refl _) _
def longer (l best x:List UInt8):List UInt8:=if best.length<x.length∧Lib.hasPrefix l x=true then x else best
def z8 (l:List UInt8) (n:Nat):List UInt8:=(signsL.take n).foldl (longer l) []
def Yg (l:List UInt8):TR:=if z8 l 25=[] then ⟨0,[],0,0,6⟩ else ⟨4,z8 l 25,0,(z8 l 25).length,0⟩
theorem XL (l:List UInt8) (n:Nat) (h:n<signsL.length):z8 l (n+1)=longer l (z8 l n) signsL[n]:=by
 unfold z8;rw [List.take_succ_eq_append_getElem h,List.foldl_append];rfl
theorem vS (l:List UInt8) (n:Nat):(z8 l n).length≤2:=by
 have m:∀(c:List (List UInt8)) (b:List UInt8),(∀x∈c,x.length≤2)→b.length≤2→(c.foldl (longer l) b).length≤2:=by
  intro c
  induction c with
  | nil=>intro b _ h;exact h
  | cons x c ih =>
   intro b e h;refine ih _ (fun y hy=>e y (List.mem_cons_of_mem _ hy)) ?_
   unfold longer
   split
   ·exact e x (List.mem_cons_self ..)
   ·exact h
 exact m _ _ (fun x e=>by
  have:∀x∈signsL,x.length≤2:=by decide
  exact this x (List.mem_of_mem_take e)) (by simp)
def yQ:List Value:=signsL.map fun x=>.string (za x)
def signsV:Value:=.agg yQ.toArray
theorem xX {w:World} (ht:Ze w):w.rangeAt 2 0 yQ:=fun j v hv=>by
 unfold yQ at hv
 rw [List.getElem?_map] at hv;rcases Nat.lt_or_ge j signsL.length with h | h
 ·rw [List.getElem?_eq_getElem h] at hv
  simp only [Option.map_some,Option.some.injEq] at hv;rw [Nat.zero_add,ht.signs j h,hv]
 ·rw [List.getElem?_eq_none h] at hv;cases hv
theorem XM:(Tryz.prog.info? 140).map (·.size)=some yQ.length:=by kernel_rfl
theorem Y0 (l:List UInt8) (w:World) (ht:Ze w) :
  Calls Tryz.prog 67 #[.string (za l)] w fun e w'=>e=.returned (zB (Yg l))∧Below w.heap.size w w':=by
 have J:Hid (Ze w):=ht;clear ht
 go_enter Tryz.func67,Tryz.ntmps67
 go_wp2_with (refine wpList_load_mid rfl 140 _ rfl 2 0 rfl yQ _ (xX (J.out.alloc _)) Tryz.underlying140 rfl XM ?_)
 have H:Hid (∀(wx:World) (i:Nat) (h:i<25),(Instr.index 140 signsV (.int .i64 (i:Int))).run Tryz.prog wx=.ok (.string (za (signsL[i]'h))) wx):=fun wx i h=>vR wx i h
 rw [show Value.agg yQ.toArray=signsV from rfl]
 generalize signsV=A at *
 go_loop [5,9] (fun vb v=>∃i:Nat,i≤25∧v=.int .i64 i∧vb=.string (za (z8 l i))) (fun _ v=>25-(intOf v).toNat)
 case atStart=>exact ⟨0,Nat.zero_le _,rfl,rfl⟩
 case round =>
  obtain ⟨i,M,rfl,rfl⟩:=hrel;have z:=vS l i;obtain ⟨b,E⟩:∃b,b=z8 l i:=⟨_,rfl⟩;rw [←E] at z ⊢;have B:Hid (b=z8 l i):=E;clear E
  by_cases hlt:i<25
  ·have m:=fun wx=>H.out wx i hlt
   obtain ⟨x,u⟩:∃x,x=signsL[i]'hlt:=⟨_,rfl⟩;rw [←u] at m
   have I:x.length≤2:=by
    have:∀x∈signsL,x.length≤2:=by decide
    rw [u];exact this _ (List.getElem_mem _)
   have G:Hid (z8 l (i+1)=longer l b x):=show z8 l (i+1)=longer l b x by rw [XL l i hlt,B.out,u]
   have K:(za x).size=x.length:=rfl;have F:(za b).size=b.length:=rfl;clear u
   by_cases hlen:b.length<x.length
   ·have q:=fun wx=>Tryz.strings_HasPrefix (za l) (za x) wx
    cases hp:Lib.hasPrefix l x with
    | true =>
     have o:Lib.hasPrefix (za l).data.toList (za x).data.toList=true:=hp;rw [o] at q;have c:Hid (z8 l (i+1)=x):=show z8 l (i+1)=x by rw [G.out];unfold longer;rw [if_pos ⟨hlen,hp⟩]
     clear o;go_wp2_with (go_at_call 85;refine (q _).mono ?_;rintro e w1 ⟨rfl,rfl⟩)
     refine ⟨⟨i+1,by omega,by go_num,by rw [c.out]⟩,by simp [intOf];omega⟩
    | false =>
     have o:Lib.hasPrefix (za l).data.toList (za x).data.toList=false:=hp;rw [o] at q;have c:Hid (z8 l (i+1)=b):=show z8 l (i+1)=b by rw [G.out];unfold longer;rw [if_neg (fun h=>by rw [hp] at h;exact absurd h.2 (by decide))]
     clear o;go_wp2_with (go_at_call 85;refine (q _).mono ?_;rintro e w1 ⟨rfl,rfl⟩)
     refine ⟨⟨i+1,by omega,by go_num,by rw [c.out]⟩,by simp [intOf];omega⟩
   ·have c:Hid (z8 l (i+1)=b):=show z8 l (i+1)=b by rw [G.out];unfold longer;rw [if_neg (fun h=>hlen h.1)]
    go_wp2
    refine ⟨⟨i+1,by omega,by go_num,by rw [c.out]⟩,by simp [intOf];omega⟩
  ·obtain rfl:i=25:=by omega
   have F:(za b).size=b.length:=rfl;cases b with
   | nil =>
    have D:Hid (Yg l=⟨0,[],0,0,6⟩):=by unfold Yg;rw [←B.out,if_pos rfl];rfl
    go_wp2
    refine bodyPost_ret (v:=zB ⟨0,[],0,0,6⟩) (by simp [results,Tryz.results67,go_sem,zB]) rfl ⟨by rw [D.out],?_⟩
    exact (Below.refl w.heap.size w).alloc (Nat.le_refl _) _
   | cons y ys =>
    have D:Hid (Yg l=⟨4,y::ys,0,(y::ys).length,0⟩):=by unfold Yg;rw [←B.out,if_neg (by simp)];rfl
    go_wp2
    refine bodyPost_ret (v:=zB ⟨4,y::ys,0,(y::ys).length,0⟩) (by simp [results,Tryz.results67,go_sem,zB]) rfl ⟨by rw [D.out],?_⟩
    exact (Below.refl w.heap.size w).alloc (Nat.le_refl _) _
def Yv:List UInt8→Nat × Nat
 | []=>(0,0)
 | x::r=>if x.toNat<32∨126<x.toNat then (0,0) else if x.toNat≠92 then (x.toNat,1) else
  match r with
  | []=>(0,0)
  | y::_=>if y.toNat=92 then (92,2) else if y.toNat=34 then (34,2) else if y.toNat=110 then (10,2) else (0,0)
theorem xC (w:World) (l:List UInt8) (i:Nat) (h:i<l.length):(Instr.index 9 (.string (za l)) (.int .i64 (i:Int))).run Tryz.prog w=.ok (.int .u8 ((l[i]).toNat:Int)) w:=by
 rw [run_index_string (P:=Tryz.prog) (w:=w) 9 (za l) .i64 _ Tryz.underlying9,dif_pos ⟨by omega,by rw [zt];omega⟩]
 simp only [Int.toNat_natCast]
 rfl
theorem xc {a:Nat × Nat} {c k:Nat} (h:a=(c,k)):(Ending.returned (.tuple #[.int .u8 (c:Int),.int .i64 (k:Int)]):Ending)=.returned (.tuple #[.int .u8 (a.1:Int),.int .i64 (a.2:Int)]):=by rw [h]
theorem vx {x:UInt8} {r:List UInt8} (h:x.toNat<32∨126<x.toNat):Yv (x::r)=(0,0):=by
 show (if _ then _ else _)=_;rw [if_pos h]
theorem vy {x:UInt8} {r:List UInt8} (h:¬ (x.toNat<32∨126<x.toNat)) (h2:x.toNat≠92):Yv (x::r)=(x.toNat,1):=by
 show (if _ then _ else _)=_;rw [if_neg h,if_pos h2]
theorem vz {x:UInt8} (h:¬ (x.toNat<32∨126<x.toNat)) (h2:x.toNat=92):Yv [x]=(0,0):=by
 show (if _ then _ else _)=_;rw [if_neg h,if_neg (by omega)]
def Ui (m:Nat):Nat × Nat:=if m=92 then (92,2) else if m=34 then (34,2) else if m=110 then (10,2) else (0,0)
theorem vA {x y:UInt8} {t:List UInt8} (h:¬ (x.toNat<32∨126<x.toNat)) (h2:x.toNat=92):Yv (x::y::t)=Ui y.toNat:=by
 show (if _ then _ else _)=_;rw [if_neg h,if_neg (by omega)];rfl
def Yo:List Nat:=[92,34,110]
def Y1:List Nat:=[92,34,10]
theorem uX {m i:Nat} (hi:i<3) (h:∀j (hj:j<3),j<i→(Yo[j]'hj)≠m) (he:(Yo[i]'hi)=m):Ui m=((Y1[i]'hi),2):=by
 have b:i=0∨i=1∨i=2:=by omega
 rcases b with rfl | rfl | rfl
 ·rw [←he];rfl
 ·rw [←he];rfl
 ·rw [←he];rfl
theorem uq {m:Nat} (h:∀j (hj:j<3),(Yo[j]'hj)≠m):Ui m=(0,0):=by
 have e:92≠m:=h 0 (by decide)
 have c:34≠m:=h 1 (by decide)
 have b:110≠m:=h 2 (by decide)
 unfold Ui
 rw [if_neg (by omega),if_neg (by omega),if_neg (by omega)]
theorem xY (w:World) (i:Nat) (h:i<3):(Instr.index 151 (.agg #[.int .u8 92,.int .u8 92,.int .u8 34,.int .u8 34,.int .u8 10,.int .u8 110]) (.int .i64 (i:Int))).run Tryz.prog w=.ok (.agg #[.int .u8 ((Y1[i]'h:Nat):Int),.int .u8 ((Yo[i]'h:Nat):Int)]) w:=by
 have b:i=0∨i=1∨i=2:=by omega
 rcases b with rfl | rfl | rfl
 all_goals rfl
theorem xD (x:UInt8) (r:List UInt8) (w:World) (hl:r.length≤9223372036854775000) (ht:Ze w) :
  Calls Tryz.prog 84 #[.string (za (x::r))] w fun e w'=>e=.returned (.tuple #[.int .u8 (Yv (x::r)).1,.int .i64 (Yv (x::r)).2])∧Below w.heap.size w w':=by
 have K:=fun wx=>xC wx (x::r) 0 (by simp)
 rw [show ((0:Nat):Int)=0 from rfl,show (x::r)[0]=x from rfl] at K
 have o:(za (x::r)).size=r.length+1:=rfl;obtain ⟨n,c⟩:∃n,n=x.toNat:=⟨_,rfl⟩;have I:n<256:=by rw [c];exact UInt8.toNat_lt x
 rw [←c] at K;obtain ⟨S,D⟩:∃S,S=za (x::r):=⟨_,rfl⟩;rw [←D] at K o ⊢;have X:=ht.escs 0 (by decide)
 have V:=ht.escs 1 (by decide)
 have W:=ht.escs 2 (by decide)
 have U:=ht.escs 3 (by decide)
 have T:=ht.escs 4 (by decide)
 have R:=ht.escs 5 (by decide)
 simp only [List.getElem_cons_zero,List.getElem_cons_succ] at X V W U T R;clear ht
 by_cases hbad:n<32∨126<n
 ·have q:Hid (Yv (x::r)=(0,0)):=vx (by rw [←c];exact hbad)
  clear D c;rcases hbad with A | A
  ·go_enter Tryz.func84,Tryz.ntmps84
   go_wp2
   go_ret2
   exact ⟨xc q.out,Below.refl _ _⟩
  ·go_enter Tryz.func84,Tryz.ntmps84
   go_wp2
   go_ret2
   exact ⟨xc q.out,Below.refl _ _⟩
 ·by_cases h92:n=92
  ·cases r with
   | nil =>
    have q:Hid (Yv [x]=(0,0)):=vz (by rw [←c];exact hbad) (by rw [←c];exact h92)
    have Z:S.size=1:=o;clear D c hbad o;subst h92
    go_enter Tryz.func84,Tryz.ntmps84
    go_wp2
    go_ret2
    exact ⟨xc q.out,Below.refl _ _⟩
   | cons y t =>
    have h1:=fun wx=>xC wx (x::y::t) 1 (by simp)
    rw [show ((1:Nat):Int)=1 from rfl,show (x::y::t)[1]=y from rfl] at h1
    obtain ⟨m,G⟩:∃m,m=y.toNat:=⟨_,rfl⟩;have J:m<256:=by rw [G];exact UInt8.toNat_lt y
    rw [←G,←D] at h1;have E:Hid (Yv (x::y::t)=Ui m):=show _=_ by rw [G];exact vA (by rw [←c];exact hbad) (by rw [←c];exact h92)
    have Y:S.size=t.length+2:=o;have aa:((t.length:Int)+2==1)=false:=by rw [beq_eq_false_iff_ne];omega
    have af:t.length+1≤9223372036854775000:=by simpa using hl
    clear D c hbad o G hl;subst h92
    go_enter Tryz.func84,Tryz.ntmps84
    go_wp2
    clear X V W U T R
    go_loopw [26] (fun v wr=>∃i:Nat,i≤3∧v=.int .i64 i∧(∀j (hj:j<3),j<i→(Yo[j]'hj)≠m)∧Below w.heap.size w wr) (fun v _=>3-(intOf v).toNat)
    case atStart=>exact ⟨0,Nat.zero_le _,rfl,fun j _ h=>by omega,Below.refl _ _⟩
    case round =>
     obtain ⟨i,hi,rfl,u,B⟩:=hrel;have O:Hid (∀j (hj:j<3),j<i→(Yo[j]'hj)≠m):=u;have M:Hid (Below w.heap.size w wr):=B;have z:=B.size;clear u B
     by_cases hlt:i<3
     ·have F:=fun wx=>xY wx i hlt
      obtain ⟨a,H⟩:∃a,a=Y1[i]'hlt:=⟨_,rfl⟩;obtain ⟨b,A⟩:∃b,b=Yo[i]'hlt:=⟨_,rfl⟩;rw [←H,←A] at F
      by_cases he:b=m
      ·have q:Hid (Yv (x::y::t)=(a,2)):=show _=_ by rw [E.out,H];exact uX hlt O.out (by rw [←A];exact he)
       subst he;clear H A;go_wp2
       go_quiet (fail)
       go_wp2
       go_ret2
       refine ⟨xc q.out,?_⟩;exact (M.out.alloc z _).trans ⟨rfl,rfl,rfl,Nat.le_refl _,fun _ _=>rfl⟩
      ·have ab:((b:Int)==(m:Int))=false:=by rw [beq_eq_false_iff_ne];omega
       have HE:Hid ((Yo[i]'hlt)≠m):=show (Yo[i]'hlt)≠m by rw [←A];exact he
       clear H A he;go_wp2
       go_quiet (fail)
       go_wp2
       refine ⟨⟨i+1,by omega,by go_num,fun j hj hji=>?_,(M.out.alloc z _).trans ⟨rfl,rfl,rfl,Nat.le_refl _,fun _ _=>rfl⟩⟩,by simp [intOf];omega⟩
       by_cases h:j<i
       ·exact O.out j hj h
       ·obtain rfl:j=i:=by omega
        exact HE.out
     ·obtain rfl:i=3:=by omega
      have q:Hid (Yv (x::y::t)=(0,0)):=show _=_ by rw [E.out];exact uq (fun j hj=>O.out j hj hj)
      go_wp2
      go_ret2
      exact ⟨xc q.out,M.out⟩
  ·have q:Hid (Yv (x::r)=(n,1)):=show Yv (x::r)=(n,1) by rw [c];exact vy (by rw [←c];exact hbad) (by rw [←c];exact h92)
   have ad:32≤n:=by omega
   have ae:n≤126:=by omega
   clear D c hbad
   go_enter Tryz.func84,Tryz.ntmps84
   go_wp2
   go_ret2
   exact ⟨xc q.out,Below.refl _ _⟩
def YD:Nat→List UInt8→Nat→List UInt8→TR
 | 0,_,_,_=>⟨0,[],0,0,6⟩
 | _+1,_,_,[]=>⟨0,[],0,0,6⟩
 | f+1,meant,at0,x::r=>if x.toNat=34 then ⟨3,meant,0,at0+1,0⟩ else if (Yv (x::r)).2=0 then ⟨0,[],0,0,6⟩ else if meant.length=255 then ⟨0,[],0,0,5⟩
  else YD f (meant++[(Yv (x::r)).1.toUInt8]) (at0+(Yv (x::r)).2) ((x::r).drop (Yv (x::r)).2)
def ZM (l:List UInt8):TR:=YD l.length [] 1 (l.drop 1)
theorem uY (l:List UInt8):(Yv l).2≤l.length∧(Yv l).1<256:=by
 cases l with
 | nil=>exact ⟨Nat.le_refl _,by decide⟩
 | cons x r =>
  by_cases h:x.toNat<32∨126<x.toNat
  ·rw [vx h];simp
  ·by_cases h2:x.toNat=92
   ·cases r with
    | nil=>rw [vz h h2];simp
    | cons y t =>
     rw [vA h h2]
     unfold Ui
     split
     ·simp
     ·split
      ·simp
      ·split <;> simp
   ·rw [vy h h2]
    have:=UInt8.toNat_lt x
    simp;omega
abbrev ZA:Obj:=Obj.cells #[Value.int IntKind.i64 0,Value.string ⟨#[]⟩,Value.int IntKind.i64 0,Value.int IntKind.i64 0,Value.int IntKind.i64 0] 103
theorem ZN {w w1:World} (hb:Below (w.heap.size+1) (w.alloc ZA) w1) :
  (∀o,w1.cell? ⟨w.heap.size,o,none⟩=(w.alloc ZA).cell? ⟨w.heap.size,o,none⟩)∧(∀o,w1.frozen? ⟨w.heap.size,o,none⟩=(w.alloc ZA).frozen? ⟨w.heap.size,o,none⟩) :=
 ⟨fun o=>hb.cell (p:=⟨w.heap.size,o,none⟩) (by simp),fun o=>hb.frozen (p:=⟨w.heap.size,o,none⟩) (by simp)⟩
theorem zK {w w1:World} (h:Below w.heap.size w w1) (a b c d e:Value) :
  Below w.heap.size w (((((w1.setCell ⟨w.heap.size,0,none⟩ a).setCell ⟨w.heap.size,1,none⟩ b).setCell ⟨w.heap.size,2,none⟩ c).setCell ⟨w.heap.size,3,none⟩ d).setCell ⟨w.heap.size,4,none⟩ e) :=
 ((((h.setCell (p:=⟨w.heap.size,0,none⟩) (Nat.le_refl _) _).setCell (p:=⟨w.heap.size,1,none⟩) (Nat.le_refl _) _).setCell (p:=⟨w.heap.size,2,none⟩) (Nat.le_refl _) _).setCell (p:=⟨w.heap.size,3,none⟩) (Nat.le_refl _) _).setCell (p:=⟨w.heap.size,4,none⟩) (Nat.le_refl _) _
theorem yR {w w':World} {B C e n:Nat} {v:Value} {xs:List Value} (h:w.ownsRow B e 1 v n xs) (hb:Below C w w') (hC:w.heap.size≤C):w'.ownsRow B e 1 v n xs :=
 h.kept (row:=none) ⟨hb.os,hb.tape,hb.output,hb.size,fun k hk _=>hb.block k (by omega)⟩ (by cases h':v.ownBlock <;> simp)
theorem Y2 (l:List UInt8) (w:World) (hl:l.length≤140737488351232) (hl1:1≤l.length) (ht:Ze w) :
  Calls Tryz.prog 66 #[.string (za l)] w fun e w'=>e=.returned (zB (ZM l))∧Below w.heap.size w w':=by
 have HT:Hid (Ze w):=ht;have aA:(za l).size=l.length:=rfl;have hA:Below w.heap.size w (w.alloc ZA):=(Below.refl w.heap.size w).alloc (Nat.le_refl _) _;have HA:Hid (Below w.heap.size w (w.alloc ZA)):=hA;clear ht hA
 go_enter Tryz.func66,Tryz.ntmps66
 go_wp2
 go_loopw [5,6] (fun vm va wr=>∃(f at0:Nat) (b:List UInt8),va=.int .i64 at0∧at0≤l.length∧l.length≤at0+f∧b.length≤255∧ZM l=YD f b at0 (l.drop at0) ∧
   wr.ownsRow (w.heap.size+1) 5 1 vm b.length (Lib.byteCells b)∧Below (w.heap.size+1) (w.alloc ZA) wr) (fun _ a _=>l.length-(intOf a).toNat)
 case atStart=>exact ⟨l.length,1,[],rfl,hl1,by omega,by simp,rfl,World.ownsRow_nil _ _ _ _,Below.refl _ _⟩
 case round =>
  obtain ⟨f,at0,b,rfl,az,ay,ap,ag,O,F⟩:=hrel;have ae:Hid (ZM l=YD f b at0 (l.drop at0)):=ag;have Y:Hid (Below (w.heap.size+1) (w.alloc ZA) wr):=F;have HB:Hid (Below w.heap.size w wr):=HA.out.trans (F.mono (by omega))
  have K:=F.size;rw [World.size_alloc] at K;obtain ⟨y,ab⟩:=ZN F;have HO:Hid (wr.ownsRow (w.heap.size+1) 5 1 u5 b.length (Lib.byteCells b)):=O;clear ag F O
  by_cases hlt:at0<l.length
  ·obtain ⟨x,r,u⟩:∃x r,l.drop at0=x::r:=⟨l[at0],l.drop (at0+1),List.drop_eq_getElem_cons hlt⟩
   have af:l[at0]=x:=by
    have h:=List.drop_eq_getElem_cons hlt;rw [u] at h;exact (List.cons.inj h).1.symm
   have M:=fun wx=>xC wx l at0 hlt
   rw [af] at M;obtain ⟨n,hn⟩:∃n,n=x.toNat:=⟨_,rfl⟩;rw [←hn] at M;have an:n<256:=by rw [hn];exact UInt8.toNat_lt x
   obtain ⟨X,rfl⟩:∃X,f=X+1:=⟨f-1,by omega⟩
   have aj:Hid (ZM l=if n=34 then ⟨3,b,0,at0+1,0⟩ else if (Yv (x::r)).2=0 then ⟨0,[],0,0,6⟩ else if b.length=255 then ⟨0,[],0,0,5⟩ else YD X (b++[(Yv (x::r)).1.toUInt8]) (at0+(Yv (x::r)).2) ((x::r).drop (Yv (x::r)).2)):=show _=_ by
    rw [ae.out,u,hn];rfl
   have am:=fun wx=>VA wx l at0 (by omega)
   rw [u] at am;have Z:(x::r).length=l.length-at0:=by rw [←u,List.length_drop]
   have ao:Hid (l.drop at0=x::r):=u;clear af hn u
   by_cases h34:n=34
   ·have I:Hid (ZM l=⟨3,b,0,at0+1,0⟩):=show _=_ by rw [aj.out,if_pos h34]
    subst h34;obtain ⟨o,D,rfl,E,-,-,-⟩:=ZC HO.out;have aB:=ZK wr o b D E;clear E;go_wp2
    refine bodyPost_ret (v:=zB ⟨3,b,0,at0+1,0⟩) (by simp [results,Tryz.results66,go_sem,zB,y]) rfl ⟨by rw [I.out],?_⟩
    exact zK HB.out _ _ _ _ _
   ·have aw:((n:Int)==34)=false:=by rw [beq_eq_false_iff_ne];omega
    have z:=uY (x::r);have cb:=xD x r wr (by simp at Z;omega) (HT.out.below HB.out (Nat.le_refl _))
    obtain ⟨c,G,V⟩:∃c G,Yv (x::r)=(c,G):=⟨_,_,rfl⟩;rw [V] at cb z;simp only at z
    have R:Hid (ZM l=if G=0 then ⟨0,[],0,0,6⟩ else if b.length=255 then ⟨0,[],0,0,5⟩ else YD X (b++[c.toUInt8]) (at0+G) ((x::r).drop G)):=show _=_ by
     rw [aj.out,if_neg h34,V]
    clear V h34;go_wp2_with fail
    refine cb.mono ?_;clear cb y ab;rintro e w2 ⟨rfl,H⟩;have ax:=H.size;have J:Below (w.heap.size+1) (w.alloc ZA) w2:=Y.out.trans (H.mono K);obtain ⟨y,ab⟩:=ZN J;have ar:Hid (Below (w.heap.size+1) (w.alloc ZA) w2):=J;have ah:Hid (Below w.heap.size w w2):=HA.out.trans (J.mono (by omega))
    have T:Hid (w2.ownsRow (w.heap.size+1) 5 1 u5 b.length (Lib.byteCells b)):=yR HO.out H (Nat.le_refl _);clear H J HO Y
    by_cases hs0:G=0
    ·have I:Hid (ZM l=⟨0,[],0,0,6⟩):=show _=_ by rw [R.out,if_pos hs0]
     subst hs0;go_wp2
     refine bodyPost_ret (v:=zB ⟨0,[],0,0,6⟩) (by simp [results,Tryz.results66,go_sem,zB,y]) rfl ⟨by rw [I.out],?_⟩
     exact zK ah.out _ _ _ _ _
    ·have av:((G:Int)==0)=false:=by rw [beq_eq_false_iff_ne];omega
     obtain ⟨o,D,rfl,-,-,-,-⟩:=ZC T.out;obtain ⟨W,m⟩:∃W,W=b.length:=⟨_,rfl⟩;have ad:Hid (W=b.length):=m;rw [←m]
     by_cases h255:W=255
     ·have I:Hid (ZM l=⟨0,[],0,0,5⟩):=show _=_ by rw [R.out,if_neg hs0,if_pos (by rw [←m];exact h255)]
      clear m;subst h255;go_wp2
      refine bodyPost_ret (v:=zB ⟨0,[],0,0,5⟩) (by simp [results,Tryz.results66,go_sem,zB,y]) rfl ⟨by rw [I.out],?_⟩
      exact zK ah.out _ _ _ _ _
     ·have ak:((W:Int)==255)=false:=by rw [beq_eq_false_iff_ne];omega
      have I:Hid (ZM l=YD X (b++[c.toUInt8]) (at0+G) (l.drop (at0+G))):=show _=_ by
       rw [R.out,if_neg hs0,if_neg (by rw [←m];exact h255),←ao.out,List.drop_drop]
      have aa:Hid (w2.ownsRow (w.heap.size+1) 5 1 (.slice o W D) b.length (Lib.byteCells b)):=by rw [m];exact T.out
      have U:=z.2;have ai:=z.1;rw [Z] at ai;have au:b.length≤255:=ap;clear m T z
      go_wp2_with (at_builtin;refine Zn rfl _ _ rfl (w.heap.size+1) _ b rfl (aa.out.alloc _) _ [c.toUInt8] rfl (Z2 U (by simp)) (by simp;omega) (by simp;omega) ?_)
      intro v3 w3 B A;have aq:Hid (Below (w.heap.size+1) (w.alloc ZA) w3):=(ar.out.alloc (by omega) _).grown A (by simp;omega) (fun q hq=>(aa.out.lt q hq).1)
      have al:Hid (w3.ownsRow (w.heap.size+1) 5 1 v3 (b++[c.toUInt8]).length (Lib.byteCells (b++[c.toUInt8]))):=by
       rw [show (b++[c.toUInt8]).length=b.length+1 by simp];exact B
      clear A B;go_wp2
      refine ⟨⟨X,at0+G,b++[c.toUInt8],by go_num,by omega,by omega,?_,I.out,al.out,aq.out⟩,by simp [intOf];omega⟩
      rw [List.length_append,List.length_singleton,←ad.out]
      have:=ad.out
      omega
  ·obtain rfl:at0=l.length:=by omega
   have I:Hid (ZM l=⟨0,[],0,0,6⟩):=show _=_ by
    rw [ae.out,List.drop_length];cases f <;> rfl
   go_wp2
   refine bodyPost_ret (v:=zB ⟨0,[],0,0,6⟩) (by simp [results,Tryz.results66,go_sem,zB,y]) rfl ⟨by rw [I.out],?_⟩
   exact zK HB.out _ _ _ _ _
def yq (l:List UInt8):TR :=
 match l with
 | []=>⟨0,[],0,0,0⟩
 | x::_=>if ZW x.toNat=true then ym l else if zC x.toNat=true then xW l else if x.toNat=34 then ZM l else Yg l
theorem ur {x:UInt8} {r:List UInt8} (h:zC x.toNat=true):digL (x::r)≠[]:=by
 unfold digL;simp [h]
theorem vT (l:List UInt8) (w:World) (hl:l.length≤140737488351232) (ht:Ze w) :
  Calls Tryz.prog 53 #[.string (za l)] w fun e w'=>e=.returned (zB (yq l))∧Below w.heap.size w w':=by
 have I:Below w.heap.size w (w.alloc ZA):=(Below.refl w.heap.size w).alloc (Nat.le_refl _) _;have G:Hid (Below w.heap.size w (w.alloc ZA)):=I;have H:Hid (Ze (w.alloc ZA)):=ht.alloc _;clear ht I;cases l with
 | nil =>
  go_enter Tryz.func53,Tryz.ntmps53
  go_wp2
  refine bodyPost_ret (v:=zB ⟨0,[],0,0,0⟩) (by simp [results,Tryz.results53,go_sem,zB]) rfl ⟨rfl,?_⟩
  exact G.out
 | cons x r =>
  have A:=fun wx=>xC wx (x::r) 0 (by simp)
  rw [show ((0:Nat):Int)=0 from rfl,show (x::r)[0]=x from rfl] at A
  obtain ⟨n,F⟩:∃n,n=x.toNat:=⟨_,rfl⟩;rw [←F] at A;have u:n<256:=by rw [F];exact UInt8.toNat_lt x
  have z:Hid (yq (x::r)=if ZW n=true then ym (x::r) else if zC n=true then xW (x::r) else if n=34 then ZM (x::r) else Yg (x::r)):=show _=_ by rw [F];rfl
  have O:Hid (zC n=true→digL (x::r)≠[]):=fun h=>ur (by rw [←F];exact h)
  have T:¬ (x::r)=[]:=by simp
  clear F
  go_enter Tryz.func53,Tryz.ntmps53
  have U:(x::r).length≤140737488351232:=hl;have y:Hid (∀(R:TR) (w1:World),Below (w.alloc ZA).heap.size (w.alloc ZA) w1→Below (w.heap.size+1) (w.alloc ZA) w1):=fun R w1 h=>by rw [World.size_alloc] at h;exact h
  have M:=Zu n u (w.alloc ZA);go_wp2_with fail
  refine M.mono ?_;clear M;rintro e w1 ⟨rfl,rfl⟩;cases h1:ZW n with
  | true =>
   obtain ⟨R,o⟩:∃R,R=ym (x::r):=⟨_,rfl⟩;have m:=YZ (x::r) (w.alloc ZA) (by omega) H.out
   rw [←o] at m;have D:Hid (yq (x::r)=R):=show _=_ by rw [z.out,if_pos h1,o]
   unfold zB at m
   clear o;go_wp2_with fail
   refine m.mono ?_;clear m;rintro e w1 ⟨rfl,c⟩;have b:=y.out R w1 c;obtain ⟨q,E⟩:=ZN b;have B:Hid (Below w.heap.size w w1):=G.out.trans (b.mono (by omega))
   clear c b;go_wp2
   refine bodyPost_ret (v:=zB R) (by simp [results,Tryz.results53,go_sem,zB,q]) rfl ⟨by rw [D.out],?_⟩
   exact zK B.out _ _ _ _ _
  | false =>
   have K:=Z3 n u (w.alloc ZA);go_wp2_with fail
   refine K.mono ?_;clear K;rintro e w1 ⟨rfl,rfl⟩;cases h2:zC n with
   | true =>
    obtain ⟨R,o⟩:∃R,R=xW (x::r):=⟨_,rfl⟩;have m:=Yn (x::r) (w.alloc ZA) (by omega) (O.out h2) H.out
    rw [←o] at m;have D:Hid (yq (x::r)=R):=show _=_ by rw [z.out,if_neg (by rw [h1];simp),if_pos h2,o]
    unfold zB at m
    clear o;go_wp2_with fail
    refine m.mono ?_;clear m;rintro e w1 ⟨rfl,c⟩;have b:=y.out R w1 c;obtain ⟨q,E⟩:=ZN b;have B:Hid (Below w.heap.size w w1):=G.out.trans (b.mono (by omega))
    clear c b;go_wp2
    refine bodyPost_ret (v:=zB R) (by simp [results,Tryz.results53,go_sem,zB,q]) rfl ⟨by rw [D.out],?_⟩
    exact zK B.out _ _ _ _ _
   | false =>
    by_cases h34:n=34
    ·obtain ⟨R,o⟩:∃R,R=ZM (x::r):=⟨_,rfl⟩
     have m:=Y2 (x::r) (w.alloc ZA) (by omega) (by simp) H.out
     rw [←o] at m;have D:Hid (yq (x::r)=R):=show _=_ by rw [z.out,if_neg (by rw [h1];simp),if_neg (by rw [h2];simp),if_pos h34,o]
     subst h34
     unfold zB at m
     clear o;go_wp2_with fail
     refine m.mono ?_;clear m;rintro e w1 ⟨rfl,c⟩;have b:=y.out R w1 c;obtain ⟨q,E⟩:=ZN b;have B:Hid (Below w.heap.size w w1):=G.out.trans (b.mono (by omega))
     clear c b;go_wp2
     refine bodyPost_ret (v:=zB R) (by simp [results,Tryz.results53,go_sem,zB,q]) rfl ⟨by rw [D.out],?_⟩
     exact zK B.out _ _ _ _ _
    ·obtain ⟨R,o⟩:∃R,R=Yg (x::r):=⟨_,rfl⟩
     have J:((n:Int)==34)=false:=by rw [beq_eq_false_iff_ne];omega
     have m:=Y0 (x::r) (w.alloc ZA) H.out;rw [←o] at m;have D:Hid (yq (x::r)=R):=show _=_ by rw [z.out,if_neg (by rw [h1];simp),if_neg (by rw [h2];simp),if_neg h34,o]
     unfold zB at m
     clear o;go_wp2_with fail
     refine m.mono ?_;clear m;rintro e w1 ⟨rfl,c⟩;have b:=y.out R w1 c;obtain ⟨q,E⟩:=ZN b;have B:Hid (Below w.heap.size w w1):=G.out.trans (b.mono (by omega))
     clear c b;go_wp2
     refine bodyPost_ret (v:=zB R) (by simp [results,Tryz.results53,go_sem,zB,q]) rfl ⟨by rw [D.out],?_⟩
     exact zK B.out _ _ _ _ _
end Go.Proofs.YtbjndgachcdbcaaGreatDoor

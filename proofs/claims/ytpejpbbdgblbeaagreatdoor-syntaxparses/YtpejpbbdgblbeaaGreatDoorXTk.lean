import Derived.Test.YtpejpbbdgblbeaaGreatDoorMC1
import Derived.Test.YtpejpbbdgblbeaaGreatDoorMC0
import Derived.Deep.MidRow
import Derived.LoopN
namespace Go.Proofs.YtpejpbbdgblbeaaGreatDoor
open Go.RowKit
set_option maxHeartbeats 16000000
set_option maxRecDepth 100000
structure TR where
 k:Nat
 s:List UInt8
 n:Nat
 sz:Nat
 e:Nat
def y6 (r:TR):Value:=.tuple #[.agg #[.int .i64 r.k,.string (za r.s),.int .i64 r.n,.int .i64 0,.int .i64 0],.int .i64 r.sz,.int .i64 r.e]
def yz (l:List UInt8):List UInt8:=l.takeWhile fun c=>Ym c.toNat
def yH (l:List UInt8):TR:=if yZ (yz l)=true then ⟨5,yz l,0,(yz l).length,0⟩ else if 20<(yz l).length then ⟨0,[],0,0,5⟩ else ⟨1,yz l,0,(yz l).length,0⟩
theorem XX (p:UInt8→Bool) (l:List UInt8):l.take (l.takeWhile p).length=l.takeWhile p:=by
 induction l with
 | nil=>rfl
 | cons x l ih =>
  by_cases h:p x=true
  ·simp [h,ih]
  ·simp [h]
theorem UT (l:List UInt8):(yz l).length≤l.length:=(List.takeWhile_sublist _).length_le
theorem Ys.alloc {w:World} (h:Ys w) (o:Obj):Ys (w.alloc o) :=
 ⟨fun j hj=>Lib.cell?_alloc_some o (h.words j hj),fun j hj=>Lib.cell?_alloc_some o (h.signs j hj),fun j hj=>Lib.cell?_alloc_some o (h.escs j hj),by obtain ⟨a,b,c⟩:=h.range;exact ⟨a,b,Lib.cell?_alloc_some o c⟩⟩
theorem Ys.below {w w':World} {B:Nat} (h:Ys w) (hb:Below B w w') (hB:w.heap.size≤B):Ys w':=by
 have key:∀{p:Addr} {v:Value},w.cell? p=some v→w'.cell? p=some v:=fun {p v} hp=>by
  rw [hb.cell (Nat.lt_of_lt_of_le (World.block_lt_of_cell? w _ hp) hB)];exact hp
 exact ⟨fun j hj=>key (h.words j hj),fun j hj=>key (h.signs j hj),fun j hj=>key (h.escs j hj),by obtain ⟨a,b,c⟩:=h.range;exact ⟨a,b,key c⟩⟩
theorem qX (l:List UInt8) (w:World) (hl:l.length≤9223372036854775000) (ht:Ys w) :
  Calls Tryz.prog 156 #[.string (za l)] w fun e w'=>e=.returned (y6 (yH l))∧Below w.heap.size w w':=by
 have HT:Hid (Ys w):=ht;have hnl:=UT l;obtain ⟨m,hm⟩:∃m,m=(yz l).length:=⟨_,rfl⟩;rw [←hm] at hnl;have hto:=fun wx=>zaf wx l m hnl
 rw [show l.take m=yz l by rw [hm];exact XX _ l] at hto
 have HM:Hid (m=(yz l).length):=hm;clear ht
 have HN:Hid (∀wx,Calls Tryz.prog 149 #[.string (za l),.func (.func 182) #[] #[]] wx fun e w'=>e=.returned (.int .i64 m)∧wx=w'):=fun wx=>by
  rw [hm];exact zfe l wx hl
 have HW:Hid (∀wx,Ys wx→Calls Tryz.prog 183 #[.string (za (yz l))] wx fun e w'=>e=.returned (.bool (yZ (yz l)))∧wx=w'):=fun wx h=>zfg _ wx h
 clear hm;have hb:=(Below.refl w.heap.size w).alloc (Nat.le_refl _);obtain ⟨x,hx⟩:∃x,x=yz l:=⟨_,rfl⟩;rw [←hx] at hto HW HM;have HX:Hid (x=yz l):=hx;clear hx
 go_enter Tryz.func156,Tryz.ntmps156
 go_wp2_with fail
 refine (HN.out _).mono ?_;rintro e w1 ⟨rfl,rfl⟩;go_wp2_with fail
 refine (HW.out _ (HT.out.alloc _)).mono ?_;rintro e w1 ⟨rfl,rfl⟩;cases hq:yZ x with
 | true =>
  have HR:Hid (yH l=⟨5,x,0,m,0⟩):=by unfold yH;rw [←HX.out,if_pos hq,←HM.out];rfl
  go_wp2
  refine bodyPost_ret (v:=y6 ⟨5,x,0,m,0⟩) (by simp [results,Tryz.results156,go_sem,y6]) rfl ⟨by rw [HR.out],?_⟩
  exact (Below.refl w.heap.size w).alloc (Nat.le_refl _) _
 | false =>
  by_cases h20:20<m
  ·have HR:Hid (yH l=⟨0,[],0,0,5⟩):=by unfold yH;rw [←HX.out,if_neg (by rw [hq];simp),if_pos (by rw [←HM.out];exact h20)];rfl
   go_wp2
   refine bodyPost_ret (v:=y6 ⟨0,[],0,0,5⟩) (by simp [results,Tryz.results156,go_sem,y6]) rfl ⟨by rw [HR.out],?_⟩
   exact (Below.refl w.heap.size w).alloc (Nat.le_refl _) _
  ·have HR:Hid (yH l=⟨1,x,0,m,0⟩):=by unfold yH;rw [←HX.out,if_neg (by rw [hq];simp),if_neg (by rw [←HM.out];exact h20),←HM.out];rfl
   go_wp2
   refine bodyPost_ret (v:=y6 ⟨1,x,0,m,0⟩) (by simp [results,Tryz.results156,go_sem,y6]) rfl ⟨by rw [HR.out],?_⟩
   exact (Below.refl w.heap.size w).alloc (Nat.le_refl _) _
def valA (acc:Nat):List UInt8→Nat
 | []=>acc
 | c::r=>valA (acc*10+(c.toNat-48)) r
theorem zah:∀(r:List UInt8) (acc:Nat),acc≤valA acc r
 | [],_=>Nat.le_refl _
 | c::r,acc=>Nat.le_trans (by omega) (zah r (acc*10+(c.toNat-48)))
theorem zai (ds:List UInt8):∀(acc:Nat),(∀c∈ds,Zn c.toNat=true)→acc<18446744073709551616 →
  Lib.parseUint10 acc ds=if valA acc ds<18446744073709551616 then .ok (valA acc ds) else .range:=by
 induction ds with
 | nil =>
  intro acc _ ha;rw [show valA acc []=acc from rfl,if_pos ha]
  rfl
 | cons c r ih =>
  intro acc h ha;have hc:=h c (List.mem_cons_self ..)
  unfold Zn at hc
  rw [Bool.and_eq_true,decide_eq_true_eq,decide_eq_true_eq] at hc;have hge:=zah r (acc*10+(c.toNat-48));rw [show valA acc (c::r)=valA (acc*10+(c.toNat-48)) r from rfl]
  unfold Lib.parseUint10
  rw [if_pos hc]
  by_cases h1:1844674407370955162≤acc
  ·rw [if_pos h1,if_neg (by omega)]
  ·rw [if_neg h1]
   by_cases h2:18446744073709551616≤acc*10+(c.toNat-48)
   ·rw [if_pos h2,if_neg (by omega)]
   ·rw [if_neg h2]
    exact ih _ (fun d hd=>h d (List.mem_cons_of_mem _ hd)) (by omega)
theorem zaW {ds:List UInt8} (h:∀c∈ds,Zn c.toNat=true) (hne:ds≠[]) :
  Lib.atoiAll ds=if valA 0 ds<9223372036854775808 then .ok (valA 0 ds:Int) else .range:=by
 cases ds with
 | nil=>exact absurd rfl hne
 | cons c r =>
  have hc:=h c (List.mem_cons_self ..)
  unfold Zn at hc
  rw [Bool.and_eq_true,decide_eq_true_eq,decide_eq_true_eq] at hc;have h1:¬ (c.toNat=43∨c.toNat=45):=by omega
  have h2:¬ c.toNat=45:=by omega
  have hp:Lib.parseMag (c::r)=if valA 0 (c::r)<18446744073709551616 then .ok (valA 0 (c::r)) else .range:=by
   unfold Lib.parseMag;rw [if_neg (by simp)];exact zai _ 0 h (by omega)
  generalize valA 0 (c::r)=v at hp ⊢;have e1:(if c.toNat=43∨c.toNat=45 then r else c::r)=c::r:=if_neg h1
  unfold Lib.atoiAll
  simp only [e1];rw [hp]
  by_cases h3:v<18446744073709551616
  ·rw [if_pos h3]
   by_cases h4:v<9223372036854775808
   ·simp only
    rw [if_neg (by omega),if_neg (by omega),if_neg h2,if_pos h4]
   ·simp only
    rw [if_pos ⟨h2,by omega⟩,if_neg h4]
  ·rw [if_neg h3,if_neg (by omega)]
theorem Ve {p:UInt8→Bool}:∀(l:List UInt8) (c:UInt8),c∈l.takeWhile p→p c=true
 | [],c,h=>by simp at h
 | x::l,c,h=>by
  by_cases hx:p x=true
  ·rw [List.takeWhile_cons_of_pos hx] at h
   rcases List.mem_cons.1 h with rfl | h
   ·exact hx
   ·exact Ve l c h
  ·rw [List.takeWhile_cons_of_neg hx] at h
   simp at h
def digL (l:List UInt8):List UInt8:=l.takeWhile fun c=>Zn c.toNat
def xA (l:List UInt8):TR:=if valA 0 (digL l)<9223372036854775808 then ⟨2,[],valA 0 (digL l),(digL l).length,0⟩ else ⟨0,[],0,0,5⟩
theorem zdt (l:List UInt8):(digL l).length≤l.length:=(List.takeWhile_sublist _).length_le
theorem UU (l:List UInt8):∀c∈digL l,Zn c.toNat=true:=fun c hc=>Ve (p:=fun c=>Zn c.toNat) l c hc
theorem UB (l:List UInt8) (w:World) (hl:l.length≤140737488351232) (hne:digL l≠[]) (ht:Ys w) :
  Calls Tryz.prog 158 #[.string (za l)] w fun e w'=>e=.returned (y6 (xA l))∧Below w.heap.size w w':=by
 have HT:Hid (Ys w):=ht;have hnl:=zdt l;obtain ⟨m,hm⟩:∃m,m=(digL l).length:=⟨_,rfl⟩;rw [←hm] at hnl;have hto:=fun wx=>zaf wx l m hnl
 rw [show l.take m=digL l by rw [hm];exact XX _ l] at hto
 have HM:Hid (m=(digL l).length):=hm;have hm47:m≤140737488351232:=by omega
 clear ht
 have HN:Hid (∀wx,Calls Tryz.prog 149 #[.string (za l),.func (.func 157) #[] #[]] wx fun e w'=>e=.returned (.int .i64 m)∧wx=w'):=fun wx=>by
  rw [hm];exact zdW l wx (by omega)
 have hat:=zaW (UU l) hne;obtain ⟨x,hx⟩:∃x,x=digL l:=⟨_,rfl⟩;rw [←hx] at hto HM hat;obtain ⟨v,hv⟩:∃v,v=valA 0 x:=⟨_,rfl⟩;rw [←hv] at hat;have HX:Hid (x=digL l):=hx;have HV:Hid (v=valA 0 x):=hv;have HAT:Hid (Lib.atoiAll x=if v<9223372036854775808 then .ok (v:Int) else .range):=hat
 clear hx hv hat hm
 go_enter Tryz.func158,Tryz.ntmps158
 go_wp2_with fail
 refine (HN.out _).mono ?_;rintro e w1 ⟨rfl,rfl⟩
 by_cases h63:v<9223372036854775808
 ·have c1:=fun wx=>Tryz.strconv_Atoi_ok (za x) (by rw [Zs,←HM.out];omega) v (by show Lib.atoiAll x=_;rw [HAT.out,if_pos h63]) wx
  have HR:Hid (xA l=⟨2,[],v,m,0⟩):=by unfold xA;rw [←HX.out,←HV.out,if_pos h63,←HM.out];rfl
  go_wp2_with fail
  refine (c1 _).mono ?_;clear c1;rintro e w1 ⟨rfl,hw1⟩
  have hb1:Below (w.heap.size+1) (w.alloc (Obj.cells #[Value.int IntKind.i64 0,Value.string ⟨#[]⟩,Value.int IntKind.i64 0,Value.int IntKind.i64 0,Value.int IntKind.i64 0] 66)) w1:=by
   rcases hw1 with rfl | ⟨t,rfl⟩
   ·exact Below.refl _ _
   ·have hbw:=Lib.bytesWorld_below (w.alloc (Obj.cells #[Value.int IntKind.i64 0,Value.string ⟨#[]⟩,Value.int IntKind.i64 0,Value.int IntKind.i64 0,Value.int IntKind.i64 0] 66)) 5 t
    rw [World.size_alloc] at hbw;exact hbw
  clear hw1
  obtain ⟨hc1,hf1⟩:(∀o,w1.cell? ⟨w.heap.size,o,none⟩=(w.alloc (Obj.cells #[Value.int IntKind.i64 0,Value.string ⟨#[]⟩,Value.int IntKind.i64 0,Value.int IntKind.i64 0,Value.int IntKind.i64 0] 66)).cell? ⟨w.heap.size,o,none⟩)∧(∀o,w1.frozen? ⟨w.heap.size,o,none⟩=(w.alloc (Obj.cells #[Value.int IntKind.i64 0,Value.string ⟨#[]⟩,Value.int IntKind.i64 0,Value.int IntKind.i64 0,Value.int IntKind.i64 0] 66)).frozen? ⟨w.heap.size,o,none⟩) :=
   ⟨fun o=>hb1.cell (p:=⟨w.heap.size,o,none⟩) (by simp),fun o=>hb1.frozen (p:=⟨w.heap.size,o,none⟩) (by simp)⟩
  have HB:Hid (Below w.heap.size w w1):=((Below.refl w.heap.size w).alloc (Nat.le_refl _) _).trans (hb1.mono (by omega))
  clear hb1;go_wp2
  refine bodyPost_ret (v:=y6 ⟨2,[],v,m,0⟩) (by simp [results,Tryz.results158,go_sem,y6,hc1]) rfl ⟨by rw [HR.out],?_⟩
  exact ((((HB.out.setCell (p:=⟨w.heap.size,0,none⟩) (Nat.le_refl _) _).setCell (p:=⟨w.heap.size,1,none⟩) (Nat.le_refl _) _).setCell (p:=⟨w.heap.size,2,none⟩) (Nat.le_refl _) _).setCell (p:=⟨w.heap.size,3,none⟩) (Nat.le_refl _) _).setCell (p:=⟨w.heap.size,4,none⟩) (Nat.le_refl _) _
 ·obtain ⟨te,pe,hrg⟩:=HT.out.range
  have c1:=Tryz.strconv_Atoi_range (za x) (by rw [Zs,←HM.out];omega) (by show Lib.atoiAll x=_;rw [HAT.out,if_neg h63]) (.iface te pe) (w.alloc (Obj.cells #[Value.int IntKind.i64 0,Value.string ⟨#[]⟩,Value.int IntKind.i64 0,Value.int IntKind.i64 0,Value.int IntKind.i64 0] 66)) (Lib.cell?_alloc_some _ hrg) (.inr ⟨te,pe,rfl⟩)
  have HR:Hid (xA l=⟨0,[],0,0,5⟩):=by unfold xA;rw [←HX.out,←HV.out,if_neg h63];rfl
  go_wp2_with fail
  refine c1.mono ?_;clear c1;rintro e w1 ⟨NN,rfl,-,-,hb1⟩;rw [World.size_alloc] at hb1
  obtain ⟨hc1,hf1⟩:(∀o,w1.cell? ⟨w.heap.size,o,none⟩=(w.alloc (Obj.cells #[Value.int IntKind.i64 0,Value.string ⟨#[]⟩,Value.int IntKind.i64 0,Value.int IntKind.i64 0,Value.int IntKind.i64 0] 66)).cell? ⟨w.heap.size,o,none⟩)∧(∀o,w1.frozen? ⟨w.heap.size,o,none⟩=(w.alloc (Obj.cells #[Value.int IntKind.i64 0,Value.string ⟨#[]⟩,Value.int IntKind.i64 0,Value.int IntKind.i64 0,Value.int IntKind.i64 0] 66)).frozen? ⟨w.heap.size,o,none⟩) :=
   ⟨fun o=>hb1.cell (p:=⟨w.heap.size,o,none⟩) (by simp),fun o=>hb1.frozen (p:=⟨w.heap.size,o,none⟩) (by simp)⟩
  have HB:Hid (Below w.heap.size w w1):=((Below.refl w.heap.size w).alloc (Nat.le_refl _) _).trans (hb1.mono (by omega))
  clear hb1 hrg;go_wp2
  refine bodyPost_ret (v:=y6 ⟨0,[],0,0,5⟩) (by simp [results,Tryz.results158,go_sem,y6,hc1]) rfl ⟨by rw [HR.out],?_⟩
  exact ((((HB.out.setCell (p:=⟨w.heap.size,0,none⟩) (Nat.le_refl _) _).setCell (p:=⟨w.heap.size,1,none⟩) (Nat.le_refl _) _).setCell (p:=⟨w.heap.size,2,none⟩) (Nat.le_refl _) _).setCell (p:=⟨w.heap.size,3,none⟩) (Nat.le_refl _) _).setCell (p:=⟨w.heap.size,4,none⟩) (Nat.le_refl _) _
def longer (l best x:List UInt8):List UInt8:=if best.length<x.length∧Lib.hasPrefix l x=true then x else best
def bestS (l:List UInt8) (n:Nat):List UInt8:=(signsL.take n).foldl (longer l) []
def Yw (l:List UInt8):TR:=if bestS l 25=[] then ⟨0,[],0,0,6⟩ else ⟨4,bestS l 25,0,(bestS l 25).length,0⟩
theorem zcl (l:List UInt8) (n:Nat) (h:n<signsL.length):bestS l (n+1)=longer l (bestS l n) signsL[n]:=by
 unfold bestS;rw [List.take_succ_eq_append_getElem h,List.foldl_append];rfl
theorem QB (l:List UInt8) (n:Nat):(bestS l n).length≤2:=by
 have key:∀(xs:List (List UInt8)) (b:List UInt8),(∀x∈xs,x.length≤2)→b.length≤2→(xs.foldl (longer l) b).length≤2:=by
  intro xs
  induction xs with
  | nil=>intro b _ hb;exact hb
  | cons x xs ih =>
   intro b hx hb;refine ih _ (fun y hy=>hx y (List.mem_cons_of_mem _ hy)) ?_
   unfold longer
   split
   ·exact hx x (List.mem_cons_self ..)
   ·exact hb
 exact key _ _ (fun x hx=>by
  have:∀x∈signsL,x.length≤2:=by decide
  exact this x (List.mem_of_mem_take hx)) (by simp)
def uM:List Value:=signsL.map fun x=>.string (za x)
def signsV:Value:=.agg uM.toArray
theorem zaX {w:World} (ht:Ys w):w.rangeAt 3 0 uM:=fun j v hv=>by
 unfold uM at hv
 rw [List.getElem?_map] at hv;rcases Nat.lt_or_ge j signsL.length with h | h
 ·rw [List.getElem?_eq_getElem h] at hv
  simp only [Option.map_some,Option.some.injEq] at hv;rw [Nat.zero_add,ht.signs j h,hv]
 ·rw [List.getElem?_eq_none h] at hv;cases hv
theorem zcm:(Tryz.prog.info? 216).map (·.size)=some uM.length:=by kernel_rfl
theorem qY (l:List UInt8) (w:World) (ht:Ys w) :
  Calls Tryz.prog 160 #[.string (za l)] w fun e w'=>e=.returned (y6 (Yw l))∧Below w.heap.size w w':=by
 have HT:Hid (Ys w):=ht;clear ht
 go_enter Tryz.func160,Tryz.ntmps160
 go_wp2_with (refine wpList_load_mid rfl 216 _ rfl 3 0 rfl uM _ (zaX (HT.out.alloc _)) Tryz.underlying216 rfl zcm ?_)
 have HI:Hid (∀(wx:World) (i:Nat) (h:i<25),(Instr.index 216 signsV (.int .i64 (i:Int))).run Tryz.prog wx=.ok (.string (za (signsL[i]'h))) wx):=fun wx i h=>zdZ wx i h
 rw [show Value.agg uM.toArray=signsV from rfl]
 generalize signsV=A at *
 go_loop [5,9] (fun vb v=>∃i:Nat,i≤25∧v=.int .i64 i∧vb=.string (za (bestS l i))) (fun _ v=>25-(intOf v).toNat)
 case atStart=>exact ⟨0,Nat.zero_le _,rfl,rfl⟩
 case round =>
  obtain ⟨i,hi,rfl,rfl⟩:=hrel;have hbl:=QB l i;obtain ⟨b,hb⟩:∃b,b=bestS l i:=⟨_,rfl⟩;rw [←hb] at hbl ⊢;have HB:Hid (b=bestS l i):=hb;clear hb
  by_cases hlt:i<25
  ·have hidx:=fun wx=>HI.out wx i hlt
   obtain ⟨x,hx⟩:∃x,x=signsL[i]'hlt:=⟨_,rfl⟩;rw [←hx] at hidx
   have hx2:x.length≤2:=by
    have:∀x∈signsL,x.length≤2:=by decide
    rw [hx];exact this _ (List.getElem_mem _)
   have HN:Hid (bestS l (i+1)=longer l b x):=show bestS l (i+1)=longer l b x by rw [zcl l i hlt,HB.out,hx]
   have hsx:(za x).size=x.length:=rfl;have hsb:(za b).size=b.length:=rfl;clear hx
   by_cases hlen:b.length<x.length
   ·have cp:=fun wx=>Tryz.strings_HasPrefix (za l) (za x) wx
    cases hp:Lib.hasPrefix l x with
    | true =>
     have e1:Lib.hasPrefix (za l).data.toList (za x).data.toList=true:=hp;rw [e1] at cp;have HN2:Hid (bestS l (i+1)=x):=show bestS l (i+1)=x by rw [HN.out];unfold longer;rw [if_pos ⟨hlen,hp⟩]
     clear e1;go_wp2_with (go_at_call 140;refine (cp _).mono ?_;rintro e w1 ⟨rfl,rfl⟩)
     refine ⟨⟨i+1,by omega,by go_num,by rw [HN2.out]⟩,by simp [intOf];omega⟩
    | false =>
     have e1:Lib.hasPrefix (za l).data.toList (za x).data.toList=false:=hp;rw [e1] at cp;have HN2:Hid (bestS l (i+1)=b):=show bestS l (i+1)=b by rw [HN.out];unfold longer;rw [if_neg (fun h=>by rw [hp] at h;exact absurd h.2 (by decide))]
     clear e1;go_wp2_with (go_at_call 140;refine (cp _).mono ?_;rintro e w1 ⟨rfl,rfl⟩)
     refine ⟨⟨i+1,by omega,by go_num,by rw [HN2.out]⟩,by simp [intOf];omega⟩
   ·have HN2:Hid (bestS l (i+1)=b):=show bestS l (i+1)=b by rw [HN.out];unfold longer;rw [if_neg (fun h=>hlen h.1)]
    go_wp2
    refine ⟨⟨i+1,by omega,by go_num,by rw [HN2.out]⟩,by simp [intOf];omega⟩
  ·obtain rfl:i=25:=by omega
   have hsb:(za b).size=b.length:=rfl;cases b with
   | nil =>
    have HR:Hid (Yw l=⟨0,[],0,0,6⟩):=by unfold Yw;rw [←HB.out,if_pos rfl];rfl
    go_wp2
    refine bodyPost_ret (v:=y6 ⟨0,[],0,0,6⟩) (by simp [results,Tryz.results160,go_sem,y6]) rfl ⟨by rw [HR.out],?_⟩
    exact (Below.refl w.heap.size w).alloc (Nat.le_refl _) _
   | cons y ys =>
    have HR:Hid (Yw l=⟨4,y::ys,0,(y::ys).length,0⟩):=by unfold Yw;rw [←HB.out,if_neg (by simp)];rfl
    go_wp2
    refine bodyPost_ret (v:=y6 ⟨4,y::ys,0,(y::ys).length,0⟩) (by simp [results,Tryz.results160,go_sem,y6]) rfl ⟨by rw [HR.out],?_⟩
    exact (Below.refl w.heap.size w).alloc (Nat.le_refl _) _
def XV:List UInt8→Nat × Nat
 | []=>(0,0)
 | x::r=>if x.toNat<32∨126<x.toNat then (0,0) else if x.toNat≠92 then (x.toNat,1) else
  match r with
  | []=>(0,0)
  | y::_=>if y.toNat=92 then (92,2) else if y.toNat=34 then (34,2) else if y.toNat=110 then (10,2) else (0,0)
theorem YO (w:World) (l:List UInt8) (i:Nat) (h:i<l.length):(Instr.index 9 (.string (za l)) (.int .i64 (i:Int))).run Tryz.prog w=.ok (.int .u8 ((l[i]).toNat:Int)) w:=by
 rw [run_index_string (P:=Tryz.prog) (w:=w) 9 (za l) .i64 _ Tryz.underlying9,dif_pos ⟨by omega,by rw [Zs];omega⟩]
 simp only [Int.toNat_natCast]
 rfl
theorem QC {a:Nat × Nat} {c k:Nat} (h:a=(c,k)):(Ending.returned (.tuple #[.int .u8 (c:Int),.int .i64 (k:Int)]):Ending)=.returned (.tuple #[.int .u8 (a.1:Int),.int .i64 (a.2:Int)]):=by rw [h]
theorem ui {x:UInt8} {r:List UInt8} (h:x.toNat<32∨126<x.toNat):XV (x::r)=(0,0):=by
 show (if _ then _ else _)=_;rw [if_pos h]
theorem uj {x:UInt8} {r:List UInt8} (h:¬ (x.toNat<32∨126<x.toNat)) (h2:x.toNat≠92):XV (x::r)=(x.toNat,1):=by
 show (if _ then _ else _)=_;rw [if_neg h,if_pos h2]
theorem UI {x:UInt8} (h:¬ (x.toNat<32∨126<x.toNat)) (h2:x.toNat=92):XV [x]=(0,0):=by
 show (if _ then _ else _)=_;rw [if_neg h,if_neg (by omega)]
def tbE (m:Nat):Nat × Nat:=if m=92 then (92,2) else if m=34 then (34,2) else if m=110 then (10,2) else (0,0)
theorem UJ {x y:UInt8} {t:List UInt8} (h:¬ (x.toNat<32∨126<x.toNat)) (h2:x.toNat=92):XV (x::y::t)=tbE y.toNat:=by
 show (if _ then _ else _)=_;rw [if_neg h,if_neg (by omega)];rfl
def UC:List Nat:=[92,34,110]
def qZ:List Nat:=[92,34,10]
theorem zht {m i:Nat} (hi:i<3) (h:∀j (hj:j<3),j<i→(UC[j]'hj)≠m) (he:(UC[i]'hi)=m):tbE m=((qZ[i]'hi),2):=by
 have hc:i=0∨i=1∨i=2:=by omega
 rcases hc with rfl | rfl | rfl
 ·rw [←he];rfl
 ·rw [←he];rfl
 ·rw [←he];rfl
theorem zgt {m:Nat} (h:∀j (hj:j<3),(UC[j]'hj)≠m):tbE m=(0,0):=by
 have h0:92≠m:=h 0 (by decide)
 have h1:34≠m:=h 1 (by decide)
 have h2:110≠m:=h 2 (by decide)
 unfold tbE
 rw [if_neg (by omega),if_neg (by omega),if_neg (by omega)]
theorem zaY (w:World) (i:Nat) (h:i<3):(Instr.index 229 (.agg #[.int .u8 92,.int .u8 92,.int .u8 34,.int .u8 34,.int .u8 10,.int .u8 110]) (.int .i64 (i:Int))).run Tryz.prog w=.ok (.agg #[.int .u8 ((qZ[i]'h:Nat):Int),.int .u8 ((UC[i]'h:Nat):Int)]) w:=by
 have hc:i=0∨i=1∨i=2:=by omega
 rcases hc with rfl | rfl | rfl
 all_goals rfl
theorem zaj (x:UInt8) (r:List UInt8) (w:World) (hl:r.length≤9223372036854775000) (ht:Ys w) :
  Calls Tryz.prog 185 #[.string (za (x::r))] w fun e w'=>e=.returned (.tuple #[.int .u8 (XV (x::r)).1,.int .i64 (XV (x::r)).2])∧Below w.heap.size w w':=by
 have h0:=fun wx=>YO wx (x::r) 0 (by simp)
 rw [show ((0:Nat):Int)=0 from rfl,show (x::r)[0]=x from rfl] at h0
 have hsz:(za (x::r)).size=r.length+1:=rfl;obtain ⟨n,hn⟩:∃n,n=x.toNat:=⟨_,rfl⟩;have hn256:n<256:=by rw [hn];exact UInt8.toNat_lt x
 rw [←hn] at h0;obtain ⟨S,hS⟩:∃S,S=za (x::r):=⟨_,rfl⟩;rw [←hS] at h0 hsz ⊢;have e0:=ht.escs 0 (by decide)
 have e1:=ht.escs 1 (by decide)
 have e2:=ht.escs 2 (by decide)
 have e3:=ht.escs 3 (by decide)
 have e4:=ht.escs 4 (by decide)
 have e5:=ht.escs 5 (by decide)
 simp only [List.getElem_cons_zero,List.getElem_cons_succ] at e0 e1 e2 e3 e4 e5;clear ht
 by_cases hbad:n<32∨126<n
 ·have HR:Hid (XV (x::r)=(0,0)):=ui (by rw [←hn];exact hbad)
  clear hS hn;rcases hbad with hb | hb
  ·go_enter Tryz.func185,Tryz.ntmps185
   go_wp2
   go_ret2
   exact ⟨QC HR.out,Below.refl _ _⟩
  ·go_enter Tryz.func185,Tryz.ntmps185
   go_wp2
   go_ret2
   exact ⟨QC HR.out,Below.refl _ _⟩
 ·by_cases h92:n=92
  ·cases r with
   | nil =>
    have HR:Hid (XV [x]=(0,0)):=UI (by rw [←hn];exact hbad) (by rw [←hn];exact h92)
    have hsz1:S.size=1:=hsz;clear hS hn hbad hsz;subst h92
    go_enter Tryz.func185,Tryz.ntmps185
    go_wp2
    go_ret2
    exact ⟨QC HR.out,Below.refl _ _⟩
   | cons y t =>
    have h1:=fun wx=>YO wx (x::y::t) 1 (by simp)
    rw [show ((1:Nat):Int)=1 from rfl,show (x::y::t)[1]=y from rfl] at h1
    obtain ⟨m,hm⟩:∃m,m=y.toNat:=⟨_,rfl⟩;have hm256:m<256:=by rw [hm];exact UInt8.toNat_lt y
    rw [←hm,←hS] at h1;have HR0:Hid (XV (x::y::t)=tbE m):=show _=_ by rw [hm];exact UJ (by rw [←hn];exact hbad) (by rw [←hn];exact h92)
    have hszl:S.size=t.length+2:=hsz;have hne1:((t.length:Int)+2==1)=false:=by rw [beq_eq_false_iff_ne];omega
    have htl:t.length+1≤9223372036854775000:=by simpa using hl
    clear hS hn hbad hsz hm hl;subst h92
    go_enter Tryz.func185,Tryz.ntmps185
    go_wp2
    clear e0 e1 e2 e3 e4 e5
    go_loopw [26] (fun v wr=>∃i:Nat,i≤3∧v=.int .i64 i∧(∀j (hj:j<3),j<i→(UC[j]'hj)≠m)∧Below w.heap.size w wr) (fun v _=>3-(intOf v).toNat)
    case atStart=>exact ⟨0,Nat.zero_le _,rfl,fun j _ h=>by omega,Below.refl _ _⟩
    case round =>
     obtain ⟨i,hi,rfl,hall,hbw⟩:=hrel;have HA:Hid (∀j (hj:j<3),j<i→(UC[j]'hj)≠m):=hall;have HB:Hid (Below w.heap.size w wr):=hbw;have hszw:=hbw.size;clear hall hbw
     by_cases hlt:i<3
     ·have hidx:=fun wx=>zaY wx i hlt
      obtain ⟨a,ha⟩:∃a,a=qZ[i]'hlt:=⟨_,rfl⟩;obtain ⟨b,hb⟩:∃b,b=UC[i]'hlt:=⟨_,rfl⟩;rw [←ha,←hb] at hidx
      by_cases he:b=m
      ·have HR:Hid (XV (x::y::t)=(a,2)):=show _=_ by rw [HR0.out,ha];exact zht hlt HA.out (by rw [←hb];exact he)
       subst he;clear ha hb;go_wp2
       go_quiet (fail)
       go_wp2
       go_ret2
       refine ⟨QC HR.out,?_⟩;exact (HB.out.alloc hszw _).trans ⟨rfl,rfl,rfl,Nat.le_refl _,fun _ _=>rfl⟩
      ·have hbe:((b:Int)==(m:Int))=false:=by rw [beq_eq_false_iff_ne];omega
       have HE:Hid ((UC[i]'hlt)≠m):=show (UC[i]'hlt)≠m by rw [←hb];exact he
       clear ha hb he;go_wp2
       go_quiet (fail)
       go_wp2
       refine ⟨⟨i+1,by omega,by go_num,fun j hj hji=>?_,(HB.out.alloc hszw _).trans ⟨rfl,rfl,rfl,Nat.le_refl _,fun _ _=>rfl⟩⟩,by simp [intOf];omega⟩
       by_cases h:j<i
       ·exact HA.out j hj h
       ·obtain rfl:j=i:=by omega
        exact HE.out
     ·obtain rfl:i=3:=by omega
      have HR:Hid (XV (x::y::t)=(0,0)):=show _=_ by rw [HR0.out];exact zgt (fun j hj=>HA.out j hj hj)
      go_wp2
      go_ret2
      exact ⟨QC HR.out,HB.out⟩
  ·have HR:Hid (XV (x::r)=(n,1)):=show XV (x::r)=(n,1) by rw [hn];exact uj (by rw [←hn];exact hbad) (by rw [←hn];exact h92)
   have hb1:32≤n:=by omega
   have hb2:n≤126:=by omega
   clear hS hn hbad
   go_enter Tryz.func185,Tryz.ntmps185
   go_wp2
   go_ret2
   exact ⟨QC HR.out,Below.refl _ _⟩
def Ze:Nat→List UInt8→Nat→List UInt8→TR
 | 0,_,_,_=>⟨0,[],0,0,6⟩
 | _+1,_,_,[]=>⟨0,[],0,0,6⟩
 | f+1,meant,at0,x::r=>if x.toNat=34 then ⟨3,meant,0,at0+1,0⟩ else if (XV (x::r)).2=0 then ⟨0,[],0,0,6⟩ else if meant.length=255 then ⟨0,[],0,0,5⟩
  else Ze f (meant++[(XV (x::r)).1.toUInt8]) (at0+(XV (x::r)).2) ((x::r).drop (XV (x::r)).2)
def ZI (l:List UInt8):TR:=Ze l.length [] 1 (l.drop 1)
theorem zfh (l:List UInt8):(XV l).2≤l.length∧(XV l).1<256:=by
 cases l with
 | nil=>exact ⟨Nat.le_refl _,by decide⟩
 | cons x r =>
  by_cases h:x.toNat<32∨126<x.toNat
  ·rw [ui h];simp
  ·by_cases h2:x.toNat=92
   ·cases r with
    | nil=>rw [UI h h2];simp
    | cons y t =>
     rw [UJ h h2]
     unfold tbE
     split
     ·simp
     ·split
      ·simp
      ·split <;> simp
   ·rw [uj h h2]
    have:=UInt8.toNat_lt x
    simp;omega
abbrev yA:Obj:=Obj.cells #[Value.int IntKind.i64 0,Value.string ⟨#[]⟩,Value.int IntKind.i64 0,Value.int IntKind.i64 0,Value.int IntKind.i64 0] 66
theorem YS {w w1:World} (hb:Below (w.heap.size+1) (w.alloc yA) w1) :
  (∀o,w1.cell? ⟨w.heap.size,o,none⟩=(w.alloc yA).cell? ⟨w.heap.size,o,none⟩)∧(∀o,w1.frozen? ⟨w.heap.size,o,none⟩=(w.alloc yA).frozen? ⟨w.heap.size,o,none⟩) :=
 ⟨fun o=>hb.cell (p:=⟨w.heap.size,o,none⟩) (by simp),fun o=>hb.frozen (p:=⟨w.heap.size,o,none⟩) (by simp)⟩
theorem Zr {w w1:World} (h:Below w.heap.size w w1) (a b c d e:Value) :
  Below w.heap.size w (((((w1.setCell ⟨w.heap.size,0,none⟩ a).setCell ⟨w.heap.size,1,none⟩ b).setCell ⟨w.heap.size,2,none⟩ c).setCell ⟨w.heap.size,3,none⟩ d).setCell ⟨w.heap.size,4,none⟩ e) :=
 ((((h.setCell (p:=⟨w.heap.size,0,none⟩) (Nat.le_refl _) _).setCell (p:=⟨w.heap.size,1,none⟩) (Nat.le_refl _) _).setCell (p:=⟨w.heap.size,2,none⟩) (Nat.le_refl _) _).setCell (p:=⟨w.heap.size,3,none⟩) (Nat.le_refl _) _).setCell (p:=⟨w.heap.size,4,none⟩) (Nat.le_refl _) _
theorem yT {w w':World} {B C e n:Nat} {v:Value} {xs:List Value} (h:w.ownsRow B e 1 v n xs) (hb:Below C w w') (hC:w.heap.size≤C):w'.ownsRow B e 1 v n xs :=
 h.kept (row:=none) ⟨hb.os,hb.tape,hb.output,hb.size,fun k hk _=>hb.block k (by omega)⟩ (by cases h':v.ownBlock <;> simp)
theorem Qa (l:List UInt8) (w:World) (hl:l.length≤140737488351232) (hl1:1≤l.length) (ht:Ys w) :
  Calls Tryz.prog 159 #[.string (za l)] w fun e w'=>e=.returned (y6 (ZI l))∧Below w.heap.size w w':=by
 have HT:Hid (Ys w):=ht;have hsz:(za l).size=l.length:=rfl;have hA:Below w.heap.size w (w.alloc yA):=(Below.refl w.heap.size w).alloc (Nat.le_refl _) _;have HA:Hid (Below w.heap.size w (w.alloc yA)):=hA;clear ht hA
 go_enter Tryz.func159,Tryz.ntmps159
 go_wp2
 go_loopw [5,6] (fun vm va wr=>∃(f at0:Nat) (meant:List UInt8),va=.int .i64 at0∧at0≤l.length∧l.length≤at0+f∧meant.length≤255∧ZI l=Ze f meant at0 (l.drop at0) ∧
   wr.ownsRow (w.heap.size+1) 5 1 vm meant.length (Lib.byteCells meant)∧Below (w.heap.size+1) (w.alloc yA) wr) (fun _ a _=>l.length-(intOf a).toNat)
 case atStart=>exact ⟨l.length,1,[],rfl,hl1,by omega,by simp,rfl,World.ownsRow_nil _ _ _ _,Below.refl _ _⟩
 case round =>
  obtain ⟨f,at0,meant,rfl,hat,hfu,hme,htx,hown,hbw⟩:=hrel;have HTX:Hid (ZI l=Ze f meant at0 (l.drop at0)):=htx;have HBW:Hid (Below (w.heap.size+1) (w.alloc yA) wr):=hbw;have HB:Hid (Below w.heap.size w wr):=HA.out.trans (hbw.mono (by omega))
  have hszw:=hbw.size;rw [World.size_alloc] at hszw;obtain ⟨hc1,hf1⟩:=YS hbw;have HO:Hid (wr.ownsRow (w.heap.size+1) 5 1 u5 meant.length (Lib.byteCells meant)):=hown;clear htx hbw hown
  by_cases hlt:at0<l.length
  ·obtain ⟨x,r,hxr⟩:∃x r,l.drop at0=x::r:=⟨l[at0],l.drop (at0+1),List.drop_eq_getElem_cons hlt⟩
   have hx0:l[at0]=x:=by
    have h:=List.drop_eq_getElem_cons hlt;rw [hxr] at h;exact (List.cons.inj h).1.symm
   have hidx:=fun wx=>YO wx l at0 hlt
   rw [hx0] at hidx;obtain ⟨n,hn⟩:∃n,n=x.toNat:=⟨_,rfl⟩;rw [←hn] at hidx;have hn256:n<256:=by rw [hn];exact UInt8.toNat_lt x
   obtain ⟨f',rfl⟩:∃f',f=f'+1:=⟨f-1,by omega⟩
   have HT1:Hid (ZI l=if n=34 then ⟨3,meant,0,at0+1,0⟩ else if (XV (x::r)).2=0 then ⟨0,[],0,0,6⟩ else if meant.length=255 then ⟨0,[],0,0,5⟩ else Ze f' (meant++[(XV (x::r)).1.toUInt8]) (at0+(XV (x::r)).2) ((x::r).drop (XV (x::r)).2)):=show _=_ by
    rw [HTX.out,hxr,hn];rfl
   have hsl:=fun wx=>XW wx l at0 (by omega)
   rw [hxr] at hsl;have hrl:(x::r).length=l.length-at0:=by rw [←hxr,List.length_drop]
   have HXR:Hid (l.drop at0=x::r):=hxr;clear hx0 hn hxr
   by_cases h34:n=34
   ·have HR:Hid (ZI l=⟨3,meant,0,at0+1,0⟩):=show _=_ by rw [HT1.out,if_pos h34]
    subst h34;obtain ⟨baseM,capM,rfl,hrowM,-,-,-⟩:=YY HO.out;have hcv:=US wr baseM meant capM hrowM;clear hrowM;go_wp2
    refine bodyPost_ret (v:=y6 ⟨3,meant,0,at0+1,0⟩) (by simp [results,Tryz.results159,go_sem,y6,hc1]) rfl ⟨by rw [HR.out],?_⟩
    exact Zr HB.out _ _ _ _ _
   ·have h34b:((n:Int)==34)=false:=by rw [beq_eq_false_iff_ne];omega
    have htb:=zfh (x::r);have cb:=zaj x r wr (by simp at hrl;omega) (HT.out.below HB.out (Nat.le_refl _))
    obtain ⟨c,sz,hcs⟩:∃c sz,XV (x::r)=(c,sz):=⟨_,_,rfl⟩;rw [hcs] at cb htb;simp only at htb
    have HT2:Hid (ZI l=if sz=0 then ⟨0,[],0,0,6⟩ else if meant.length=255 then ⟨0,[],0,0,5⟩ else Ze f' (meant++[c.toUInt8]) (at0+sz) ((x::r).drop sz)):=show _=_ by
     rw [HT1.out,if_neg h34,hcs]
    clear hcs h34;go_wp2_with fail
    refine cb.mono ?_;clear cb hc1 hf1;rintro e w2 ⟨rfl,hb2⟩;have hsz2:=hb2.size;have hB2:Below (w.heap.size+1) (w.alloc yA) w2:=HBW.out.trans (hb2.mono hszw);obtain ⟨hc1,hf1⟩:=YS hB2;have HB2:Hid (Below (w.heap.size+1) (w.alloc yA) w2):=hB2;have HB3:Hid (Below w.heap.size w w2):=HA.out.trans (hB2.mono (by omega))
    have HO2:Hid (w2.ownsRow (w.heap.size+1) 5 1 u5 meant.length (Lib.byteCells meant)):=yT HO.out hb2 (Nat.le_refl _);clear hb2 hB2 HO HBW
    by_cases hs0:sz=0
    ·have HR:Hid (ZI l=⟨0,[],0,0,6⟩):=show _=_ by rw [HT2.out,if_pos hs0]
     subst hs0;go_wp2
     refine bodyPost_ret (v:=y6 ⟨0,[],0,0,6⟩) (by simp [results,Tryz.results159,go_sem,y6,hc1]) rfl ⟨by rw [HR.out],?_⟩
     exact Zr HB3.out _ _ _ _ _
    ·have hs0b:((sz:Int)==0)=false:=by rw [beq_eq_false_iff_ne];omega
     obtain ⟨baseM,capM,rfl,-,-,-,-⟩:=YY HO2.out;obtain ⟨ml,hml⟩:∃ml,ml=meant.length:=⟨_,rfl⟩;have HML:Hid (ml=meant.length):=hml;rw [←hml]
     by_cases h255:ml=255
     ·have HR:Hid (ZI l=⟨0,[],0,0,5⟩):=show _=_ by rw [HT2.out,if_neg hs0,if_pos (by rw [←hml];exact h255)]
      clear hml;subst h255;go_wp2
      refine bodyPost_ret (v:=y6 ⟨0,[],0,0,5⟩) (by simp [results,Tryz.results159,go_sem,y6,hc1]) rfl ⟨by rw [HR.out],?_⟩
      exact Zr HB3.out _ _ _ _ _
     ·have h255b:((ml:Int)==255)=false:=by rw [beq_eq_false_iff_ne];omega
      have HR:Hid (ZI l=Ze f' (meant++[c.toUInt8]) (at0+sz) (l.drop (at0+sz))):=show _=_ by
       rw [HT2.out,if_neg hs0,if_neg (by rw [←hml];exact h255),←HXR.out,List.drop_drop]
      have HO3:Hid (w2.ownsRow (w.heap.size+1) 5 1 (.slice baseM ml capM) meant.length (Lib.byteCells meant)):=by rw [hml];exact HO2.out
      have hc256:=htb.2;have hszl:=htb.1;rw [hrl] at hszl;have hmlb:meant.length≤255:=hme;clear hml HO2 htb
      go_wp2_with (at_builtin;refine ZY rfl _ _ rfl (w.heap.size+1) _ meant rfl (HO3.out.alloc _) _ [c.toUInt8] rfl (yy hc256 (by simp)) (by simp;omega) (by simp;omega) ?_)
      intro v3 w3 hown3 hgrow;have HB4:Hid (Below (w.heap.size+1) (w.alloc yA) w3):=(HB2.out.alloc (by omega) _).grown hgrow (by simp;omega) (fun q hq=>(HO3.out.lt q hq).1)
      have HO4:Hid (w3.ownsRow (w.heap.size+1) 5 1 v3 (meant++[c.toUInt8]).length (Lib.byteCells (meant++[c.toUInt8]))):=by
       rw [show (meant++[c.toUInt8]).length=meant.length+1 by simp];exact hown3
      clear hgrow hown3;go_wp2
      refine ⟨⟨f',at0+sz,meant++[c.toUInt8],by go_num,by omega,by omega,?_,HR.out,HO4.out,HB4.out⟩,by simp [intOf];omega⟩
      rw [List.length_append,List.length_singleton,←HML.out]
      have:=HML.out
      omega
  ·obtain rfl:at0=l.length:=by omega
   have HR:Hid (ZI l=⟨0,[],0,0,6⟩):=show _=_ by
    rw [HTX.out,List.drop_length];cases f <;> rfl
   go_wp2
   refine bodyPost_ret (v:=y6 ⟨0,[],0,0,6⟩) (by simp [results,Tryz.results159,go_sem,y6,hc1]) rfl ⟨by rw [HR.out],?_⟩
   exact Zr HB.out _ _ _ _ _
def Zc (l:List UInt8):TR :=
 match l with
 | []=>⟨0,[],0,0,0⟩
 | x::_=>if Zv x.toNat=true then yH l else if Zn x.toNat=true then xA l else if x.toNat=34 then ZI l else Yw l
theorem zgu {x:UInt8} {r:List UInt8} (h:Zn x.toNat=true):digL (x::r)≠[]:=by
 unfold digL;simp [h]
theorem QD (l:List UInt8) (w:World) (hl:l.length≤140737488351232) (ht:Ys w) :
  Calls Tryz.prog 129 #[.string (za l)] w fun e w'=>e=.returned (y6 (Zc l))∧Below w.heap.size w w':=by
 have hA:Below w.heap.size w (w.alloc yA):=(Below.refl w.heap.size w).alloc (Nat.le_refl _) _;have HA:Hid (Below w.heap.size w (w.alloc yA)):=hA;have HT:Hid (Ys (w.alloc yA)):=ht.alloc _;clear ht hA;cases l with
 | nil =>
  go_enter Tryz.func129,Tryz.ntmps129
  go_wp2
  refine bodyPost_ret (v:=y6 ⟨0,[],0,0,0⟩) (by simp [results,Tryz.results129,go_sem,y6]) rfl ⟨rfl,?_⟩
  exact HA.out
 | cons x r =>
  have hidx:=fun wx=>YO wx (x::r) 0 (by simp)
  rw [show ((0:Nat):Int)=0 from rfl,show (x::r)[0]=x from rfl] at hidx
  obtain ⟨n,hn⟩:∃n,n=x.toNat:=⟨_,rfl⟩;rw [←hn] at hidx;have hn256:n<256:=by rw [hn];exact UInt8.toNat_lt x
  have HTT:Hid (Zc (x::r)=if Zv n=true then yH (x::r) else if Zn n=true then xA (x::r) else if n=34 then ZI (x::r) else Yw (x::r)):=show _=_ by rw [hn];rfl
  have HD:Hid (Zn n=true→digL (x::r)≠[]):=fun h=>zgu (by rw [←hn];exact h)
  have hne:¬ (x::r)=[]:=by simp
  clear hn
  go_enter Tryz.func129,Tryz.ntmps129
  have hl':(x::r).length≤140737488351232:=hl;have fin:Hid (∀(R:TR) (w1:World),Below (w.alloc yA).heap.size (w.alloc yA) w1→Below (w.heap.size+1) (w.alloc yA) w1):=fun R w1 h=>by rw [World.size_alloc] at h;exact h
  have cn:=Xe n hn256 (w.alloc yA);go_wp2_with fail
  refine cn.mono ?_;clear cn;rintro e w1 ⟨rfl,rfl⟩;cases h1:Zv n with
  | true =>
   obtain ⟨R,hR⟩:∃R,R=yH (x::r):=⟨_,rfl⟩;have c1:=qX (x::r) (w.alloc yA) (by omega) HT.out
   rw [←hR] at c1;have HR:Hid (Zc (x::r)=R):=show _=_ by rw [HTT.out,if_pos h1,hR]
   unfold y6 at c1
   clear hR;go_wp2_with fail
   refine c1.mono ?_;clear c1;rintro e w1 ⟨rfl,hb1⟩;have hb2:=fin.out R w1 hb1;obtain ⟨hc1,hf1⟩:=YS hb2;have HB:Hid (Below w.heap.size w w1):=HA.out.trans (hb2.mono (by omega))
   clear hb1 hb2;go_wp2
   refine bodyPost_ret (v:=y6 R) (by simp [results,Tryz.results129,go_sem,y6,hc1]) rfl ⟨by rw [HR.out],?_⟩
   exact Zr HB.out _ _ _ _ _
  | false =>
   have cd:=vP n hn256 (w.alloc yA);go_wp2_with fail
   refine cd.mono ?_;clear cd;rintro e w1 ⟨rfl,rfl⟩;cases h2:Zn n with
   | true =>
    obtain ⟨R,hR⟩:∃R,R=xA (x::r):=⟨_,rfl⟩;have c1:=UB (x::r) (w.alloc yA) (by omega) (HD.out h2) HT.out
    rw [←hR] at c1;have HR:Hid (Zc (x::r)=R):=show _=_ by rw [HTT.out,if_neg (by rw [h1];simp),if_pos h2,hR]
    unfold y6 at c1
    clear hR;go_wp2_with fail
    refine c1.mono ?_;clear c1;rintro e w1 ⟨rfl,hb1⟩;have hb2:=fin.out R w1 hb1;obtain ⟨hc1,hf1⟩:=YS hb2;have HB:Hid (Below w.heap.size w w1):=HA.out.trans (hb2.mono (by omega))
    clear hb1 hb2;go_wp2
    refine bodyPost_ret (v:=y6 R) (by simp [results,Tryz.results129,go_sem,y6,hc1]) rfl ⟨by rw [HR.out],?_⟩
    exact Zr HB.out _ _ _ _ _
   | false =>
    by_cases h34:n=34
    ·obtain ⟨R,hR⟩:∃R,R=ZI (x::r):=⟨_,rfl⟩
     have c1:=Qa (x::r) (w.alloc yA) (by omega) (by simp) HT.out
     rw [←hR] at c1;have HR:Hid (Zc (x::r)=R):=show _=_ by rw [HTT.out,if_neg (by rw [h1];simp),if_neg (by rw [h2];simp),if_pos h34,hR]
     subst h34
     unfold y6 at c1
     clear hR;go_wp2_with fail
     refine c1.mono ?_;clear c1;rintro e w1 ⟨rfl,hb1⟩;have hb2:=fin.out R w1 hb1;obtain ⟨hc1,hf1⟩:=YS hb2;have HB:Hid (Below w.heap.size w w1):=HA.out.trans (hb2.mono (by omega))
     clear hb1 hb2;go_wp2
     refine bodyPost_ret (v:=y6 R) (by simp [results,Tryz.results129,go_sem,y6,hc1]) rfl ⟨by rw [HR.out],?_⟩
     exact Zr HB.out _ _ _ _ _
    ·obtain ⟨R,hR⟩:∃R,R=Yw (x::r):=⟨_,rfl⟩
     have h34b:((n:Int)==34)=false:=by rw [beq_eq_false_iff_ne];omega
     have c1:=qY (x::r) (w.alloc yA) HT.out;rw [←hR] at c1;have HR:Hid (Zc (x::r)=R):=show _=_ by rw [HTT.out,if_neg (by rw [h1];simp),if_neg (by rw [h2];simp),if_neg h34,hR]
     unfold y6 at c1
     clear hR;go_wp2_with fail
     refine c1.mono ?_;clear c1;rintro e w1 ⟨rfl,hb1⟩;have hb2:=fin.out R w1 hb1;obtain ⟨hc1,hf1⟩:=YS hb2;have HB:Hid (Below w.heap.size w w1):=HA.out.trans (hb2.mono (by omega))
     clear hb1 hb2;go_wp2
     refine bodyPost_ret (v:=y6 R) (by simp [results,Tryz.results129,go_sem,y6,hc1]) rfl ⟨by rw [HR.out],?_⟩
     exact Zr HB.out _ _ _ _ _
end Go.Proofs.YtpejpbbdgblbeaaGreatDoor

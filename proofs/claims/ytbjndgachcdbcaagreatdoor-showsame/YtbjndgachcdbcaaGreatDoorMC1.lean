import Derived.Test.YtbjndgachcdbcaaGreatDoorWAll
import Derived.Lib.Strings
import Derived.Laws.DeepStrings4
import Derived.Test.YtbjndgachcdbcaaGreatDoorShelf
namespace Go.Proofs.YtbjndgachcdbcaaGreatDoor
open Go.RowKit
set_option maxHeartbeats 16000000
set_option maxRecDepth 100000
abbrev za (l:List UInt8):ByteArray:=⟨l.toArray⟩
theorem zu (l:List UInt8):(za l).size=l.length:=rfl
theorem Z4 (l:List UInt8) (a b:Nat):(za l).extract a b=za ((l.drop a).take (b-a)):=by
 have e:=Lib.extract_data (za l) a b;have c:(za l).data.toList=l:=rfl;rw [c] at e;show _=(⟨_⟩:ByteArray)
 rw [←e]
theorem V9 (w:World) (l:List UInt8) (a:Nat) (h:a≤l.length) :
  (Instr.slice 9 (.string (za l)) (some (.int .i64 (a:Int))) none none).run Tryz.prog w=.ok (.string (za (l.drop a))) w:=by
 rw [run_slice_string_from_if (P:=Tryz.prog) (w:=w) 9 (za l) .i64 _ Tryz.underlying9,if_pos ⟨by omega,by rw [zu];omega⟩]
 rw [Int.toNat_natCast,Z4,zu,List.take_of_length_le (by rw [List.length_drop];omega)]
theorem vg (w:World) (l:List UInt8) (b:Nat) (h:b≤l.length) :
  (Instr.slice 9 (.string (za l)) none (some (.int .i64 (b:Int))) none).run Tryz.prog w=.ok (.string (za (l.take b))) w:=by
 rw [run_slice_string_to_if (P:=Tryz.prog) (w:=w) 9 (za l) .i64 _ Tryz.underlying9,if_pos ⟨by omega,by rw [zu];omega⟩]
 rw [Int.toNat_natCast,Z4,List.drop_zero,Nat.sub_zero]
theorem uT (w:World) (l:List UInt8) (a n:Nat) (h:a+n≤l.length) :
  (Instr.slice 9 (.string (za l)) (some (.int .i64 (a:Int))) (some (.int .i64 ((a:Int)+(n:Int)))) none).run Tryz.prog w=.ok (.string (za ((l.drop a).take n))) w:=by
 rw [run_slice_string_if (P:=Tryz.prog) (w:=w) 9 (za l) .i64 .i64 _ _ Tryz.underlying9,if_pos ⟨by omega,by rw [zu];omega⟩,if_pos ⟨by omega,by omega⟩]
 have b:((a:Int)+(n:Int)).toNat=a+n:=by omega
 rw [b,Int.toNat_natCast,Z4,show a+n-a=n by omega]
def Z5 (n:Nat):Bool:=n==95||(decide (97≤n)&&decide (n≤122))||(decide (65≤n)&&decide (n≤90))
def zF (n:Nat):Bool:=decide (48≤n)&&decide (n≤57)
theorem uU {a b:Bool} (h:a=b):Ending.returned (.bool a)=.returned (.bool b):=by rw [h]
theorem Zw (n:Nat) (hn:n<256) (w:World) :
  Calls Tryz.prog 62 #[.int .u8 n] w fun e w'=>e=.returned (.bool (Z5 n))∧w=w':=by
 go_enter Tryz.func62,Tryz.ntmps62
 go_wp2
 all_goals go_ret
 all_goals refine ⟨uU ?_,rfl⟩
 all_goals (rw [Bool.eq_iff_iff];simp [Z5];try omega)
theorem yc (n:Nat) (hn:n<256) (w:World) :
  Calls Tryz.prog 64 #[.int .u8 n] w fun e w'=>e=.returned (.bool (zF n))∧w=w':=by
 go_enter Tryz.func64,Tryz.ntmps64
 go_wp2
 all_goals go_ret
 all_goals refine ⟨uU ?_,rfl⟩
 all_goals (rw [Bool.eq_iff_iff];simp [zF];try omega)
def xu (n:Nat):Bool:=Z5 n||zF n
theorem Vx (n:Nat) (hn:n<256) (w:World) :
  Calls Tryz.prog 81 #[.int .u8 n] w fun e w'=>e=.returned (.bool (xu n))∧w=w':=by
 cases h1:Z5 n with
 | true =>
  have b:=Zw n hn w;rw [h1] at b
  go_enter Tryz.func81,Tryz.ntmps81
  go_wp2_with fail
  refine b.mono ?_;rintro e w1 ⟨rfl,rfl⟩;go_wp2
  go_ret
  exact ⟨uU (by simp [xu,h1]),rfl⟩
 | false =>
  have b:=Zw n hn w;rw [h1] at b
  go_enter Tryz.func81,Tryz.ntmps81
  go_wp2_with fail
  refine b.mono ?_;rintro e w1 ⟨rfl,rfl⟩;go_wp2_with fail
  refine (yc n hn w).mono ?_;rintro e w1 ⟨rfl,rfl⟩;go_wp2
  go_ret
  exact ⟨uU (by simp [xu,h1]),rfl⟩
theorem yL (p:UInt8→Bool):∀(l:List UInt8) (k:Nat),k≤l.length→(∀j (h:j<l.length),j<k→p l[j]=true)→(∀h:k<l.length,p l[k]=false)→(l.takeWhile p).length=k
 | [],k,hk,_,_=>by simp at hk;simp [hk]
 | x::l,0,_,_,h2=>by
  have:=h2 (by simp)
  simp at this
  simp [this]
 | x::l,k+1,hk,h1,h2=>by
  have b:p x=true:=h1 0 (by simp) (by omega)
  have:=yL p l k (by simpa using hk) (fun j h hj=>h1 (j+1) (by simpa using h) (by omega)) (fun h=>h2 (by simpa using h))
  simp [b,this]
theorem Vy (l:List UInt8) (w:World) (hl:l.length≤9223372036854775000) :
  Calls Tryz.prog 80 #[.string (za l),.func (.func 64) #[] #[]] w fun e w'=>e=.returned (.int .i64 (l.takeWhile fun c=>zF c.toNat).length)∧w=w':=by
 obtain ⟨p,m⟩:∃p:UInt8→Bool,p=fun c=>zF c.toNat:=⟨_,rfl⟩
 have z:Hid (∀(c:UInt8) (wx:World),Calls Tryz.prog 64 #[.int .u8 (c.toNat:Int)] wx fun e w'=>e=.returned (.bool (p c))∧wx=w'):=fun c wx=>by rw [m];exact yc c.toNat (UInt8.toNat_lt c) wx
 rw [←m];clear m;have A:(za l).size=l.length:=rfl
 go_enter Tryz.func80,Tryz.ntmps80
 go_wp2
 go_loop [5] (fun v=>∃i:Nat,i≤l.length∧v=.int .i64 i∧∀j (h:j<l.length),j<i→p l[j]=true) (fun v=>l.length-(intOf v).toNat)
 case atStart=>exact ⟨0,Nat.zero_le _,rfl,fun j h hj=>by omega⟩
 case round =>
  obtain ⟨i,u,rfl,b⟩:=hrel;have o:Hid (∀j (h:j<l.length),j<i→p l[j]=true):=b;clear b
  by_cases hlt:i<l.length
  ·have y:∀wx,(Instr.index 9 (.string (za l)) (.int .i64 (i:Int))).run Tryz.prog wx=.ok (.int .u8 ((l[i]).toNat:Int)) wx:=fun wx=>by
    rw [run_index_string (P:=Tryz.prog) (w:=wx) 9 (za l) .i64 _ Tryz.underlying9,dif_pos ⟨by omega,by rw [zu];omega⟩]
    simp only [Int.toNat_natCast]
    rfl
   go_wp2_with fail
   refine (z.out l[i] w).mono ?_;rintro e w1 ⟨rfl,rfl⟩;cases hp:p l[i] with
   | true =>
    go_wp2
    refine ⟨⟨i+1,by omega,by go_num,fun j h hj=>?_⟩,by simp [intOf];omega⟩
    by_cases hji:j<i
    ·exact o.out j h hji
    ·obtain rfl:j=i:=by omega
     exact hp
   | false =>
    have q:Hid ((l.takeWhile p).length=i):=yL p l i u o.out (fun _=>hp)
    go_wp2
    go_ret
    rw [q.out];exact ⟨rfl,rfl⟩
  ·obtain rfl:i=l.length:=by omega
   have q:Hid ((l.takeWhile p).length=l.length):=yL p l l.length u o.out (fun h=>absurd h (by omega))
   go_wp2
   go_ret
   rw [q.out];exact ⟨rfl,rfl⟩
theorem ub (l:List UInt8) (w:World) (hl:l.length≤9223372036854775000) :
  Calls Tryz.prog 80 #[.string (za l),.func (.func 81) #[] #[]] w fun e w'=>e=.returned (.int .i64 (l.takeWhile fun c=>xu c.toNat).length)∧w=w':=by
 obtain ⟨p,m⟩:∃p:UInt8→Bool,p=fun c=>xu c.toNat:=⟨_,rfl⟩
 have z:Hid (∀(c:UInt8) (wx:World),Calls Tryz.prog 81 #[.int .u8 (c.toNat:Int)] wx fun e w'=>e=.returned (.bool (p c))∧wx=w'):=fun c wx=>by rw [m];exact Vx c.toNat (UInt8.toNat_lt c) wx
 rw [←m];clear m;have A:(za l).size=l.length:=rfl
 go_enter Tryz.func80,Tryz.ntmps80
 go_wp2
 go_loop [5] (fun v=>∃i:Nat,i≤l.length∧v=.int .i64 i∧∀j (h:j<l.length),j<i→p l[j]=true) (fun v=>l.length-(intOf v).toNat)
 case atStart=>exact ⟨0,Nat.zero_le _,rfl,fun j h hj=>by omega⟩
 case round =>
  obtain ⟨i,u,rfl,b⟩:=hrel;have o:Hid (∀j (h:j<l.length),j<i→p l[j]=true):=b;clear b
  by_cases hlt:i<l.length
  ·have y:∀wx,(Instr.index 9 (.string (za l)) (.int .i64 (i:Int))).run Tryz.prog wx=.ok (.int .u8 ((l[i]).toNat:Int)) wx:=fun wx=>by
    rw [run_index_string (P:=Tryz.prog) (w:=wx) 9 (za l) .i64 _ Tryz.underlying9,dif_pos ⟨by omega,by rw [zu];omega⟩]
    simp only [Int.toNat_natCast]
    rfl
   go_wp2_with fail
   refine (z.out l[i] w).mono ?_;rintro e w1 ⟨rfl,rfl⟩;cases hp:p l[i] with
   | true =>
    go_wp2
    refine ⟨⟨i+1,by omega,by go_num,fun j h hj=>?_⟩,by simp [intOf];omega⟩
    by_cases hji:j<i
    ·exact o.out j h hji
    ·obtain rfl:j=i:=by omega
     exact hp
   | false =>
    have q:Hid ((l.takeWhile p).length=i):=yL p l i u o.out (fun _=>hp)
    go_wp2
    go_ret
    rw [q.out];exact ⟨rfl,rfl⟩
  ·obtain rfl:i=l.length:=by omega
   have q:Hid ((l.takeWhile p).length=l.length):=yL p l l.length u o.out (fun h=>absurd h (by omega))
   go_wp2
   go_ret
   rw [q.out];exact ⟨rfl,rfl⟩
def zx:List (List UInt8):=[[102,110],[114,101,99,111,114,100],[108,101,116],[105,102],[101,108,115,101],[119,104,105,108,101],[114,101,116,117,114,110],[110,101,119],[116,114,117,101],[102,97,108,115,101]]
def signsL:List (List UInt8):=[[40],[41],[123],[125],[91],[93],[44],[58],[59],[46],[61],[61,61],[33,61],[60],[60,61],[62],[62,61],[43],[45],[42],[47],[37],[33],[38,38],[124,124]]
structure Zi (w:World):Prop where
 words:∀j (h:j<zx.length),w.cell? ⟨5,j,none⟩=some (.string (za zx[j]))
 signs:∀j (h:j<signsL.length),w.cell? ⟨2,j,none⟩=some (.string (za signsL[j]))
 escs:∀j (h:j<6),w.cell? ⟨4,j,none⟩=some (.int .u8 ([92,92,34,34,10,110][j]:Nat))
 range:∃te pe,w.cell? ⟨11,0,none⟩=some (.iface te pe)
def ZN (l:List UInt8):Bool:=zx.contains l
theorem Vz (w:World) (i:Nat) (h:i<10):(Instr.index 152 (.agg #[.string (za zx[0]),.string (za zx[1]),.string (za zx[2]),.string (za zx[3]),.string (za zx[4]),.string (za zx[5]),.string (za zx[6]),.string (za zx[7]),.string (za zx[8]),.string (za zx[9])]) (.int .i64 (i:Int))).run Tryz.prog w=.ok (.string (za (zx[i]'h))) w:=by
 have b:i=0∨i=1∨i=2∨i=3∨i=4∨i=5∨i=6∨i=7∨i=8∨i=9:=by omega
 rcases b with rfl | rfl | rfl | rfl | rfl | rfl | rfl | rfl | rfl | rfl
 all_goals rfl
theorem VA (w:World) (i:Nat) (h:i<25):(Instr.index 140 (.agg #[.string (za signsL[0]),.string (za signsL[1]),.string (za signsL[2]),.string (za signsL[3]),.string (za signsL[4]),.string (za signsL[5]),.string (za signsL[6]),.string (za signsL[7]),.string (za signsL[8]),.string (za signsL[9]),.string (za signsL[10]),.string (za signsL[11]),.string (za signsL[12]),.string (za signsL[13]),.string (za signsL[14]),.string (za signsL[15]),.string (za signsL[16]),.string (za signsL[17]),.string (za signsL[18]),.string (za signsL[19]),.string (za signsL[20]),.string (za signsL[21]),.string (za signsL[22]),.string (za signsL[23]),.string (za signsL[24])]) (.int .i64 (i:Int))).run Tryz.prog w=.ok (.string (za (signsL[i]'h))) w:=by
 have b:i=0∨i=1∨i=2∨i=3∨i=4∨i=5∨i=6∨i=7∨i=8∨i=9∨i=10∨i=11∨i=12∨i=13∨i=14∨i=15∨i=16∨i=17∨i=18∨i=19∨i=20∨i=21∨i=22∨i=23∨i=24:=by omega
 rcases b with rfl | rfl | rfl | rfl | rfl | rfl | rfl | rfl | rfl | rfl | rfl | rfl | rfl | rfl | rfl | rfl | rfl | rfl | rfl | rfl | rfl | rfl | rfl | rfl | rfl
 all_goals rfl
theorem uV {a b:List UInt8}:(a==b)=decide (a=b):=by by_cases h:a=b <;> simp [h]
theorem uW {l:List UInt8} {i:Nat} (h:i<zx.length) (he:zx[i]=l):ZN l=true:=by
 unfold ZN;rw [List.contains_iff_mem];rw [←he];exact List.getElem_mem h
theorem uc {l:List UInt8} (h:∀j (h:j<zx.length),zx[j]≠l):ZN l=false:=by
 unfold ZN
 rw [Bool.eq_false_iff];intro b;rw [List.contains_iff_mem] at b;obtain ⟨j,c,e⟩:=List.getElem_of_mem b;exact h j c e
theorem ud (l:List UInt8) (w:World) (ht:Zi w) :
  Calls Tryz.prog 82 #[.string (za l)] w fun e w'=>e=.returned (.bool (ZN l))∧w=w':=by
 have K:=ht.words 0 (by decide)
 have B:=ht.words 1 (by decide)
 have G:=ht.words 2 (by decide)
 have z:=ht.words 3 (by decide)
 have D:=ht.words 4 (by decide)
 have E:=ht.words 5 (by decide)
 have F:=ht.words 6 (by decide)
 have J:=ht.words 7 (by decide)
 have I:=ht.words 8 (by decide)
 have H:=ht.words 9 (by decide)
 clear ht
 go_enter Tryz.func82,Tryz.ntmps82
 go_wp2
 clear K B G z D E F J I H
 go_loop [6] (fun v=>∃i:Nat,i≤10∧v=.int .i64 i∧∀j (h:j<zx.length),j<i→zx[j]≠l) (fun v=>10-(intOf v).toNat)
 case atStart=>exact ⟨0,Nat.zero_le _,rfl,fun j h hj=>by omega⟩
 case round =>
  obtain ⟨i,O,rfl,b⟩:=hrel;have y:Hid (∀j (h:j<zx.length),j<i→zx[j]≠l):=b;clear b
  by_cases hlt:i<10
  ·have m:=fun wx=>Vz wx i hlt
   obtain ⟨x,q⟩:∃x,x=zx[i]'hlt:=⟨_,rfl⟩;rw [←q] at m;have u:Hid (x=zx[i]'hlt):=q;clear q
   by_cases c:x=l
   ·subst c
    have o:Hid (ZN x=true):=uW (i:=i) hlt u.out.symm;go_wp2
    go_ret
    rw [o.out];exact ⟨rfl,rfl⟩
   ·have A:Hid (x≠l):=c
    have M:(x==l)=false:=by rw [uV];exact decide_eq_false c
    clear c;go_wp2
    refine ⟨⟨i+1,by omega,by go_num,fun j h hj=>?_⟩,by simp [intOf];omega⟩
    by_cases hji:j<i
    ·exact y.out j h hji
    ·obtain rfl:j=i:=by omega
     intro c;exact A.out (u.out.trans c)
  ·obtain rfl:i=10:=by omega
   have o:Hid (ZN l=false):=uc (fun j h=>y.out j h h)
   go_wp2
   go_ret
   rw [o.out];exact ⟨rfl,rfl⟩
end Go.Proofs.YtbjndgachcdbcaaGreatDoor

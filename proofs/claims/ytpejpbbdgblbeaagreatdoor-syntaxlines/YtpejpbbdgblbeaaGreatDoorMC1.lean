import Derived.Test.YtpejpbbdgblbeaaGreatDoorMC0
import Derived.Lib.Strings
import Derived.Laws.DeepStrings4
import Derived.Test.YtpejpbbdgblbeaaGreatDoorShelf
namespace Go.Proofs.YtpejpbbdgblbeaaGreatDoor
open Go.RowKit
set_option maxHeartbeats 16000000
set_option maxRecDepth 100000
abbrev zb (l:List UInt8):ByteArray:=⟨l.toArray⟩
theorem Zb (l:List UInt8):(zb l).size=l.length:=rfl
theorem x8 (l:List UInt8) (a b:Nat):(zb l).extract a b=zb ((l.drop a).take (b-a)):=by
 have e:=Lib.extract_data (zb l) a b;have h:(zb l).data.toList=l:=rfl;rw [h] at e;show _=(⟨_⟩:ByteArray)
 rw [←e]
theorem xQ (w:World) (l:List UInt8) (a:Nat) (h:a≤l.length) :
  (Instr.slice 9 (.string (zb l)) (some (.int .i64 (a:Int))) none none).run Tryz.prog w=.ok (.string (zb (l.drop a))) w:=by
 rw [run_slice_string_from_if (P:=Tryz.prog) (w:=w) 9 (zb l) .i64 _ Tryz.underlying9,if_pos ⟨by omega,by rw [Zb];omega⟩]
 rw [Int.toNat_natCast,x8,Zb,List.take_of_length_le (by rw [List.length_drop];omega)]
theorem qo (w:World) (l:List UInt8) (b:Nat) (h:b≤l.length) :
  (Instr.slice 9 (.string (zb l)) none (some (.int .i64 (b:Int))) none).run Tryz.prog w=.ok (.string (zb (l.take b))) w:=by
 rw [run_slice_string_to_if (P:=Tryz.prog) (w:=w) 9 (zb l) .i64 _ Tryz.underlying9,if_pos ⟨by omega,by rw [Zb];omega⟩]
 rw [Int.toNat_natCast,x8,List.drop_zero,Nat.sub_zero]
theorem zbt (w:World) (l:List UInt8) (a n:Nat) (h:a+n≤l.length) :
  (Instr.slice 9 (.string (zb l)) (some (.int .i64 (a:Int))) (some (.int .i64 ((a:Int)+(n:Int)))) none).run Tryz.prog w=.ok (.string (zb ((l.drop a).take n))) w:=by
 rw [run_slice_string_if (P:=Tryz.prog) (w:=w) 9 (zb l) .i64 .i64 _ _ Tryz.underlying9,if_pos ⟨by omega,by rw [Zb];omega⟩,if_pos ⟨by omega,by omega⟩]
 have o:((a:Int)+(n:Int)).toNat=a+n:=by omega
 rw [o,Int.toNat_natCast,x8,show a+n-a=n by omega]
def ZJ (n:Nat):Bool:=n==95||(decide (97≤n)&&decide (n≤122))||(decide (65≤n)&&decide (n≤90))
def ZB (n:Nat):Bool:=decide (48≤n)&&decide (n≤57)
def Zd (n:Nat):Bool:=n==32||n==9||n==10
def yh (n:Nat):Bool:=n != 10
theorem zbT {a b:Bool} (h:a=b):Ending.returned (.bool a)=.returned (.bool b):=by rw [h]
theorem Y6 (n:Nat) (hn:n<256) (w:World) :
  Calls Tryz.prog 155 #[.int .u8 n] w fun e w'=>e=.returned (.bool (ZJ n))∧w=w':=by
 go_enter Tryz.func155,Tryz.ntmps155
 go_wp2
 all_goals go_ret
 all_goals refine ⟨zbT ?_,rfl⟩
 all_goals (rw [Bool.eq_iff_iff];simp [ZJ];try omega)
theorem Xw (n:Nat) (hn:n<256) (w:World) :
  Calls Tryz.prog 157 #[.int .u8 n] w fun e w'=>e=.returned (.bool (ZB n))∧w=w':=by
 go_enter Tryz.func157,Tryz.ntmps157
 go_wp2
 all_goals go_ret
 all_goals refine ⟨zbT ?_,rfl⟩
 all_goals (rw [Bool.eq_iff_iff];simp [ZB];try omega)
theorem Qd (n:Nat) (hn:n<256) (w:World) :
  Calls Tryz.prog 150 #[.int .u8 n] w fun e w'=>e=.returned (.bool (Zd n))∧w=w':=by
 go_enter Tryz.func150,Tryz.ntmps150
 go_wp2
 all_goals go_ret
 all_goals refine ⟨zbT ?_,rfl⟩
 all_goals (rw [Bool.eq_iff_iff];simp [Zd];try omega)
theorem zc3 (n:Nat) (_:n<256) (w:World) :
  Calls Tryz.prog 151 #[.int .u8 n] w fun e w'=>e=.returned (.bool (yh n))∧w=w':=by
 go_enter Tryz.func151,Tryz.ntmps151
 go_wp2
 all_goals go_ret
 all_goals refine ⟨zbT ?_,rfl⟩
 all_goals (rw [Bool.eq_iff_iff];simp [yh];try omega)
def Yt (n:Nat):Bool:=ZJ n||ZB n
theorem zbU (n:Nat) (hn:n<256) (w:World) :
  Calls Tryz.prog 182 #[.int .u8 n] w fun e w'=>e=.returned (.bool (Yt n))∧w=w':=by
 cases h1:ZJ n with
 | true =>
  have c1:=Y6 n hn w;rw [h1] at c1
  go_enter Tryz.func182,Tryz.ntmps182
  go_wp2_with fail
  refine c1.mono ?_;rintro e h ⟨rfl,rfl⟩;go_wp2
  go_ret
  exact ⟨zbT (by simp [Yt,h1]),rfl⟩
 | false =>
  have c1:=Y6 n hn w;rw [h1] at c1
  go_enter Tryz.func182,Tryz.ntmps182
  go_wp2_with fail
  refine c1.mono ?_;rintro e h ⟨rfl,rfl⟩;go_wp2_with fail
  refine (Xw n hn w).mono ?_;rintro e h ⟨rfl,rfl⟩;go_wp2
  go_ret
  exact ⟨zbT (by simp [Yt,h1]),rfl⟩
theorem YU (p:UInt8→Bool):∀(l:List UInt8) (k:Nat),k≤l.length→(∀j (h:j<l.length),j<k→p l[j]=true)→(∀h:k<l.length,p l[k]=false)→(l.takeWhile p).length=k
 | [],k,hk,_,_=>by simp at hk;simp [hk]
 | x::l,0,_,_,h2=>by
  have:=h2 (by simp)
  simp at this
  simp [this]
 | x::l,k+1,hk,h1,h2=>by
  have o:p x=true:=h1 0 (by simp) (by omega)
  have:=YU p l k (by simpa using hk) (fun j h hj=>h1 (j+1) (by simpa using h) (by omega)) (fun h=>h2 (by simpa using h))
  simp [o,this]
theorem UM (l:List UInt8) (w:World) (hl:l.length≤9223372036854775000) :
  Calls Tryz.prog 149 #[.string (zb l),.func (.func 150) #[] #[]] w fun e w'=>e=.returned (.int .i64 (l.takeWhile fun c=>Zd c.toNat).length)∧w=w':=by
 obtain ⟨p,s⟩:∃p:UInt8→Bool,p=fun c=>Zd c.toNat:=⟨_,rfl⟩
 have G:Hid (∀(c:UInt8) (wx:World),Calls Tryz.prog 150 #[.int .u8 (c.toNat:Int)] wx fun e w'=>e=.returned (.bool (p c))∧wx=w'):=fun c wx=>by rw [s];exact Qd c.toNat (UInt8.toNat_lt c) wx
 rw [←s];clear s;have H:(zb l).size=l.length:=rfl
 go_enter Tryz.func149,Tryz.ntmps149
 go_wp2
 go_loop [5] (fun v=>∃i:Nat,i≤l.length∧v=.int .i64 i∧∀j (h:j<l.length),j<i→p l[j]=true) (fun v=>l.length-(intOf v).toNat)
 case atStart=>exact ⟨0,Nat.zero_le _,rfl,fun j h hj=>by omega⟩
 case round =>
  obtain ⟨i,A,rfl,o⟩:=hrel;have y:Hid (∀j (h:j<l.length),j<i→p l[j]=true):=o;clear o
  by_cases hlt:i<l.length
  ·have D:∀wx,(Instr.index 9 (.string (zb l)) (.int .i64 (i:Int))).run Tryz.prog wx=.ok (.int .u8 ((l[i]).toNat:Int)) wx:=fun wx=>by
    rw [run_index_string (P:=Tryz.prog) (w:=wx) 9 (zb l) .i64 _ Tryz.underlying9,dif_pos ⟨by omega,by rw [Zb];omega⟩]
    simp only [Int.toNat_natCast]
    rfl
   go_wp2_with fail
   refine (G.out l[i] w).mono ?_;rintro e I ⟨rfl,rfl⟩;cases hp:p l[i] with
   | true =>
    go_wp2
    refine ⟨⟨i+1,by omega,by go_num,fun j h hj=>?_⟩,by simp [intOf];omega⟩
    by_cases hji:j<i
    ·exact y.out j h hji
    ·obtain rfl:j=i:=by omega
     exact hp
   | false =>
    have z:Hid ((l.takeWhile p).length=i):=YU p l i A y.out (fun _=>hp)
    go_wp2
    go_ret
    rw [z.out];exact ⟨rfl,rfl⟩
  ·obtain rfl:i=l.length:=by omega
   have z:Hid ((l.takeWhile p).length=l.length):=YU p l l.length A y.out (fun h=>absurd h (by omega))
   go_wp2
   go_ret
   rw [z.out];exact ⟨rfl,rfl⟩
theorem zbV (l:List UInt8) (w:World) (hl:l.length≤9223372036854775000) :
  Calls Tryz.prog 149 #[.string (zb l),.func (.func 157) #[] #[]] w fun e w'=>e=.returned (.int .i64 (l.takeWhile fun c=>ZB c.toNat).length)∧w=w':=by
 obtain ⟨p,s⟩:∃p:UInt8→Bool,p=fun c=>ZB c.toNat:=⟨_,rfl⟩
 have G:Hid (∀(c:UInt8) (wx:World),Calls Tryz.prog 157 #[.int .u8 (c.toNat:Int)] wx fun e w'=>e=.returned (.bool (p c))∧wx=w'):=fun c wx=>by rw [s];exact Xw c.toNat (UInt8.toNat_lt c) wx
 rw [←s];clear s;have H:(zb l).size=l.length:=rfl
 go_enter Tryz.func149,Tryz.ntmps149
 go_wp2
 go_loop [5] (fun v=>∃i:Nat,i≤l.length∧v=.int .i64 i∧∀j (h:j<l.length),j<i→p l[j]=true) (fun v=>l.length-(intOf v).toNat)
 case atStart=>exact ⟨0,Nat.zero_le _,rfl,fun j h hj=>by omega⟩
 case round =>
  obtain ⟨i,A,rfl,o⟩:=hrel;have y:Hid (∀j (h:j<l.length),j<i→p l[j]=true):=o;clear o
  by_cases hlt:i<l.length
  ·have D:∀wx,(Instr.index 9 (.string (zb l)) (.int .i64 (i:Int))).run Tryz.prog wx=.ok (.int .u8 ((l[i]).toNat:Int)) wx:=fun wx=>by
    rw [run_index_string (P:=Tryz.prog) (w:=wx) 9 (zb l) .i64 _ Tryz.underlying9,dif_pos ⟨by omega,by rw [Zb];omega⟩]
    simp only [Int.toNat_natCast]
    rfl
   go_wp2_with fail
   refine (G.out l[i] w).mono ?_;rintro e I ⟨rfl,rfl⟩;cases hp:p l[i] with
   | true =>
    go_wp2
    refine ⟨⟨i+1,by omega,by go_num,fun j h hj=>?_⟩,by simp [intOf];omega⟩
    by_cases hji:j<i
    ·exact y.out j h hji
    ·obtain rfl:j=i:=by omega
     exact hp
   | false =>
    have z:Hid ((l.takeWhile p).length=i):=YU p l i A y.out (fun _=>hp)
    go_wp2
    go_ret
    rw [z.out];exact ⟨rfl,rfl⟩
  ·obtain rfl:i=l.length:=by omega
   have z:Hid ((l.takeWhile p).length=l.length):=YU p l l.length A y.out (fun h=>absurd h (by omega))
   go_wp2
   go_ret
   rw [z.out];exact ⟨rfl,rfl⟩
theorem zbW (l:List UInt8) (w:World) (hl:l.length≤9223372036854775000) :
  Calls Tryz.prog 149 #[.string (zb l),.func (.func 151) #[] #[]] w fun e w'=>e=.returned (.int .i64 (l.takeWhile fun c=>yh c.toNat).length)∧w=w':=by
 obtain ⟨p,s⟩:∃p:UInt8→Bool,p=fun c=>yh c.toNat:=⟨_,rfl⟩
 have G:Hid (∀(c:UInt8) (wx:World),Calls Tryz.prog 151 #[.int .u8 (c.toNat:Int)] wx fun e w'=>e=.returned (.bool (p c))∧wx=w'):=fun c wx=>by rw [s];exact zc3 c.toNat (UInt8.toNat_lt c) wx
 rw [←s];clear s;have H:(zb l).size=l.length:=rfl
 go_enter Tryz.func149,Tryz.ntmps149
 go_wp2
 go_loop [5] (fun v=>∃i:Nat,i≤l.length∧v=.int .i64 i∧∀j (h:j<l.length),j<i→p l[j]=true) (fun v=>l.length-(intOf v).toNat)
 case atStart=>exact ⟨0,Nat.zero_le _,rfl,fun j h hj=>by omega⟩
 case round =>
  obtain ⟨i,A,rfl,o⟩:=hrel;have y:Hid (∀j (h:j<l.length),j<i→p l[j]=true):=o;clear o
  by_cases hlt:i<l.length
  ·have D:∀wx,(Instr.index 9 (.string (zb l)) (.int .i64 (i:Int))).run Tryz.prog wx=.ok (.int .u8 ((l[i]).toNat:Int)) wx:=fun wx=>by
    rw [run_index_string (P:=Tryz.prog) (w:=wx) 9 (zb l) .i64 _ Tryz.underlying9,dif_pos ⟨by omega,by rw [Zb];omega⟩]
    simp only [Int.toNat_natCast]
    rfl
   go_wp2_with fail
   refine (G.out l[i] w).mono ?_;rintro e I ⟨rfl,rfl⟩;cases hp:p l[i] with
   | true =>
    go_wp2
    refine ⟨⟨i+1,by omega,by go_num,fun j h hj=>?_⟩,by simp [intOf];omega⟩
    by_cases hji:j<i
    ·exact y.out j h hji
    ·obtain rfl:j=i:=by omega
     exact hp
   | false =>
    have z:Hid ((l.takeWhile p).length=i):=YU p l i A y.out (fun _=>hp)
    go_wp2
    go_ret
    rw [z.out];exact ⟨rfl,rfl⟩
  ·obtain rfl:i=l.length:=by omega
   have z:Hid ((l.takeWhile p).length=l.length):=YU p l l.length A y.out (fun h=>absurd h (by omega))
   go_wp2
   go_ret
   rw [z.out];exact ⟨rfl,rfl⟩
theorem zc4 (l:List UInt8) (w:World) (hl:l.length≤9223372036854775000) :
  Calls Tryz.prog 149 #[.string (zb l),.func (.func 182) #[] #[]] w fun e w'=>e=.returned (.int .i64 (l.takeWhile fun c=>Yt c.toNat).length)∧w=w':=by
 obtain ⟨p,s⟩:∃p:UInt8→Bool,p=fun c=>Yt c.toNat:=⟨_,rfl⟩
 have G:Hid (∀(c:UInt8) (wx:World),Calls Tryz.prog 182 #[.int .u8 (c.toNat:Int)] wx fun e w'=>e=.returned (.bool (p c))∧wx=w'):=fun c wx=>by rw [s];exact zbU c.toNat (UInt8.toNat_lt c) wx
 rw [←s];clear s;have H:(zb l).size=l.length:=rfl
 go_enter Tryz.func149,Tryz.ntmps149
 go_wp2
 go_loop [5] (fun v=>∃i:Nat,i≤l.length∧v=.int .i64 i∧∀j (h:j<l.length),j<i→p l[j]=true) (fun v=>l.length-(intOf v).toNat)
 case atStart=>exact ⟨0,Nat.zero_le _,rfl,fun j h hj=>by omega⟩
 case round =>
  obtain ⟨i,A,rfl,o⟩:=hrel;have y:Hid (∀j (h:j<l.length),j<i→p l[j]=true):=o;clear o
  by_cases hlt:i<l.length
  ·have D:∀wx,(Instr.index 9 (.string (zb l)) (.int .i64 (i:Int))).run Tryz.prog wx=.ok (.int .u8 ((l[i]).toNat:Int)) wx:=fun wx=>by
    rw [run_index_string (P:=Tryz.prog) (w:=wx) 9 (zb l) .i64 _ Tryz.underlying9,dif_pos ⟨by omega,by rw [Zb];omega⟩]
    simp only [Int.toNat_natCast]
    rfl
   go_wp2_with fail
   refine (G.out l[i] w).mono ?_;rintro e I ⟨rfl,rfl⟩;cases hp:p l[i] with
   | true =>
    go_wp2
    refine ⟨⟨i+1,by omega,by go_num,fun j h hj=>?_⟩,by simp [intOf];omega⟩
    by_cases hji:j<i
    ·exact y.out j h hji
    ·obtain rfl:j=i:=by omega
     exact hp
   | false =>
    have z:Hid ((l.takeWhile p).length=i):=YU p l i A y.out (fun _=>hp)
    go_wp2
    go_ret
    rw [z.out];exact ⟨rfl,rfl⟩
  ·obtain rfl:i=l.length:=by omega
   have z:Hid ((l.takeWhile p).length=l.length):=YU p l l.length A y.out (fun h=>absurd h (by omega))
   go_wp2
   go_ret
   rw [z.out];exact ⟨rfl,rfl⟩
def wordsL:List (List UInt8):=[[102,110],[114,101,99,111,114,100],[108,101,116],[105,102],[101,108,115,101],[119,104,105,108,101],[114,101,116,117,114,110],[110,101,119],[116,114,117,101],[102,97,108,115,101]]
def signsL:List (List UInt8):=[[40],[41],[123],[125],[91],[93],[44],[58],[59],[46],[61],[61,61],[33,61],[60],[60,61],[62],[62,61],[43],[45],[42],[47],[37],[33],[38,38],[124,124]]
structure yz (w:World):Prop where
 words:∀j (h:j<wordsL.length),w.cell? ⟨4,j,none⟩=some (.string (zb wordsL[j]))
 signs:∀j (h:j<signsL.length),w.cell? ⟨3,j,none⟩=some (.string (zb signsL[j]))
 escs:∀j (h:j<6),w.cell? ⟨5,j,none⟩=some (.int .u8 ([92,92,34,34,10,110][j]:Nat))
 range:∃te pe,w.cell? ⟨7,0,none⟩=some (.iface te pe)
def yA (l:List UInt8):Bool:=wordsL.contains l
theorem zbX (w:World) (i:Nat) (h:i<10):(Instr.index 226 (.agg #[.string (zb wordsL[0]),.string (zb wordsL[1]),.string (zb wordsL[2]),.string (zb wordsL[3]),.string (zb wordsL[4]),.string (zb wordsL[5]),.string (zb wordsL[6]),.string (zb wordsL[7]),.string (zb wordsL[8]),.string (zb wordsL[9])]) (.int .i64 (i:Int))).run Tryz.prog w=.ok (.string (zb (wordsL[i]'h))) w:=by
 have o:i=0∨i=1∨i=2∨i=3∨i=4∨i=5∨i=6∨i=7∨i=8∨i=9:=by omega
 rcases o with rfl | rfl | rfl | rfl | rfl | rfl | rfl | rfl | rfl | rfl
 all_goals rfl
theorem zbY (w:World) (i:Nat) (h:i<25):(Instr.index 216 (.agg #[.string (zb signsL[0]),.string (zb signsL[1]),.string (zb signsL[2]),.string (zb signsL[3]),.string (zb signsL[4]),.string (zb signsL[5]),.string (zb signsL[6]),.string (zb signsL[7]),.string (zb signsL[8]),.string (zb signsL[9]),.string (zb signsL[10]),.string (zb signsL[11]),.string (zb signsL[12]),.string (zb signsL[13]),.string (zb signsL[14]),.string (zb signsL[15]),.string (zb signsL[16]),.string (zb signsL[17]),.string (zb signsL[18]),.string (zb signsL[19]),.string (zb signsL[20]),.string (zb signsL[21]),.string (zb signsL[22]),.string (zb signsL[23]),.string (zb signsL[24])]) (.int .i64 (i:Int))).run Tryz.prog w=.ok (.string (zb (signsL[i]'h))) w:=by
 have o:i=0∨i=1∨i=2∨i=3∨i=4∨i=5∨i=6∨i=7∨i=8∨i=9∨i=10∨i=11∨i=12∨i=13∨i=14∨i=15∨i=16∨i=17∨i=18∨i=19∨i=20∨i=21∨i=22∨i=23∨i=24:=by omega
 rcases o with rfl | rfl | rfl | rfl | rfl | rfl | rfl | rfl | rfl | rfl | rfl | rfl | rfl | rfl | rfl | rfl | rfl | rfl | rfl | rfl | rfl | rfl | rfl | rfl | rfl
 all_goals rfl
theorem zgq {a b:List UInt8}:(a==b)=decide (a=b):=by by_cases h:a=b <;> simp [h]
theorem zel {l:List UInt8} {i:Nat} (h:i<wordsL.length) (he:wordsL[i]=l):yA l=true:=by
 unfold yA;rw [List.contains_iff_mem];rw [←he];exact List.getElem_mem h
theorem zc5 {l:List UInt8} (h:∀j (h:j<wordsL.length),wordsL[j]≠l):yA l=false:=by
 unfold yA
 rw [Bool.eq_false_iff];intro o;rw [List.contains_iff_mem] at o;obtain ⟨j,y,s⟩:=List.getElem_of_mem o;exact h j y s
theorem zc6 (l:List UInt8) (w:World) (ht:yz w) :
  Calls Tryz.prog 183 #[.string (zb l)] w fun e w'=>e=.returned (.bool (yA l))∧w=w':=by
 have H:=ht.words 0 (by decide)
 have T:=ht.words 1 (by decide)
 have K:=ht.words 2 (by decide)
 have U:=ht.words 3 (by decide)
 have I:=ht.words 4 (by decide)
 have R:=ht.words 5 (by decide)
 have L:=ht.words 6 (by decide)
 have Q:=ht.words 7 (by decide)
 have J:=ht.words 8 (by decide)
 have N:=ht.words 9 (by decide)
 clear ht
 go_enter Tryz.func183,Tryz.ntmps183
 go_wp2
 clear H T K U I R L Q J N
 go_loop [6] (fun v=>∃i:Nat,i≤10∧v=.int .i64 i∧∀j (h:j<wordsL.length),j<i→wordsL[j]≠l) (fun v=>10-(intOf v).toNat)
 case atStart=>exact ⟨0,Nat.zero_le _,rfl,fun j h hj=>by omega⟩
 case round =>
  obtain ⟨i,V,rfl,o⟩:=hrel;have D:Hid (∀j (h:j<wordsL.length),j<i→wordsL[j]≠l):=o;clear o
  by_cases hlt:i<10
  ·have y:=fun wx=>zbX wx i hlt
   obtain ⟨x,A⟩:∃x,x=wordsL[i]'hlt:=⟨_,rfl⟩;rw [←A] at y;have G:Hid (x=wordsL[i]'hlt):=A;clear A
   by_cases s:x=l
   ·subst s
    have z:Hid (yA x=true):=zel (i:=i) hlt G.out.symm;go_wp2
    go_ret
    rw [z.out];exact ⟨rfl,rfl⟩
   ·have O:Hid (x≠l):=s
    have W:(x==l)=false:=by rw [zgq];exact decide_eq_false s
    clear s;go_wp2
    refine ⟨⟨i+1,by omega,by go_num,fun j h hj=>?_⟩,by simp [intOf];omega⟩
    by_cases hji:j<i
    ·exact D.out j h hji
    ·obtain rfl:j=i:=by omega
     intro s;exact O.out (G.out.trans s)
  ·obtain rfl:i=10:=by omega
   have z:Hid (yA l=false):=zc5 (fun j h=>D.out j h h)
   go_wp2
   go_ret
   rw [z.out];exact ⟨rfl,rfl⟩
def Z5 (p:Nat→Bool) (l:List UInt8):Nat:=(l.takeWhile fun c=>p c.toNat).length
theorem xx (p:Nat→Bool) (l:List UInt8):Z5 p l≤l.length:=by
 unfold Z5
 exact (List.takeWhile_sublist _).length_le
def ur (l:List UInt8):Bool:=Lib.hasPrefix l [47,47]
theorem zbZ {l:List UInt8} (h:ur l=true):∃t,l=47::47::t:=by
 unfold ur Lib.hasPrefix at h
 match l,h with
 | [],h=>simp at h
 | [a],h=>simp at h
 | a::b::t,h=>simp at h;exact ⟨t,by rw [←h.1,←h.2]⟩
theorem Xx {l:List UInt8} (h:ur l=true):2≤Z5 yh l:=by
 obtain ⟨t,rfl⟩:=zbZ h
 unfold Z5
 rw [List.takeWhile_cons_of_pos (by decide),List.takeWhile_cons_of_pos (by decide)]
 simp
def yJ (l:List UInt8):Nat :=
 if _h:ur (l.drop (Z5 Zd l))=true then
  Z5 Zd l+(Z5 yh (l.drop (Z5 Zd l))+yJ ((l.drop (Z5 Zd l)).drop (Z5 yh (l.drop (Z5 Zd l)))))
 else Z5 Zd l
termination_by l.length
decreasing_by
 have:=Xx ‹_›
 have h3:=xx yh (l.drop (Z5 Zd l));simp only [List.length_drop] at *;omega
def Uq (r:List UInt8):Nat:=if ur r=true then Z5 yh r+yJ (r.drop (Z5 yh r)) else 0
theorem uc (l:List UInt8):yJ l=Z5 Zd l+Uq (l.drop (Z5 Zd l)):=by
 rw [yJ]
 unfold Uq
 by_cases h:ur (l.drop (Z5 Zd l))=true
 ·rw [dif_pos h,if_pos h]
 ·rw [dif_neg h,if_neg h];rfl
theorem ud:∀(n:Nat) (l:List UInt8),l.length≤n→yJ l≤l.length
 | n,l,hn=>by
  rw [yJ];have y:=xx Zd l
  by_cases h:ur (l.drop (Z5 Zd l))=true
  ·rw [dif_pos h]
   have z:=Xx h;have o:=xx yh (l.drop (Z5 Zd l));rw [List.length_drop] at o;have s:=ud (n-1) ((l.drop (Z5 Zd l)).drop (Z5 yh (l.drop (Z5 Zd l)))) (by simp only [List.length_drop];omega)
   simp only [List.length_drop] at s;omega
  ·rw [dif_neg h];exact y
termination_by _ l=>l.length
decreasing_by
 have:=Xx ‹_›
 have h3:=xx yh (l.drop (Z5 Zd l));simp only [List.length_drop] at *;omega
theorem zem (l:List UInt8) (w:World) (hl:l.length≤9223372036854775000) :
  Calls Tryz.prog 127 #[.string (zb l)] w fun e w'=>e=.returned (.int .i64 (yJ l))∧w=w':=by
 obtain ⟨G,D⟩:∃G,G=yJ l:=⟨_,rfl⟩;have Y:G≤l.length:=by rw [D];exact ud _ l (Nat.le_refl _)
 have H:=xx Zd l;have U:Hid (G=Z5 Zd l+Uq (l.drop (Z5 Zd l))):=show G=_ by rw [D];exact uc l
 have o:Hid (∀a,a≤l.length→∀wx,(Instr.slice 9 (.string (zb l)) (some (.int .i64 (a:Int))) none none).run Tryz.prog wx=.ok (.string (zb (l.drop a))) wx):=fun a h wx=>xQ wx l a h
 rw [←D];clear D
 go_enter Tryz.func127,Tryz.ntmps127
 go_wp2_with fail
 have N:=UM l w hl;rw [show (l.takeWhile fun c=>Zd c.toNat).length=Z5 Zd l from rfl] at N
 refine N.mono ?_;clear N;rintro e J ⟨rfl,rfl⟩;go_wp2_with fail
 go_loop [3] (fun v=>∃a:Nat,a≤l.length∧v=.int .i64 a∧G=a+Uq (l.drop a)) (fun v=>l.length-(intOf v).toNat)
 case atStart=>exact ⟨_,H,rfl,U.out⟩
 case round =>
  obtain ⟨a,ha,rfl,y⟩:=hrel;have s:Hid (G=a+Uq (l.drop a)):=y;have V:=o.out a ha;clear y;have K:=Tryz.strings_HasPrefix (zb (l.drop a)) ⟨#[47,47]⟩ w;rw [show Lib.hasPrefix (zb (l.drop a)).data.toList (⟨#[47,47]⟩:ByteArray).data.toList=ur (l.drop a) from rfl] at K
  go_wp2_with fail
  refine K.mono ?_;clear K;rintro e J ⟨rfl,rfl⟩;cases hr:ur (l.drop a) with
  | false =>
   have I:G=a:=by rw [s.out];unfold Uq;rw [hr];rfl
   subst I;go_wp2
   go_ret
   exact ⟨rfl,rfl⟩
  | true =>
   have T:=Xx hr;have O:=xx yh (l.drop a);rw [List.length_drop] at O;obtain ⟨m,A⟩:∃m,m=Z5 yh (l.drop a):=⟨_,rfl⟩;rw [←A] at T O;have c1:=zbW (l.drop a) J (by rw [List.length_drop];omega)
   rw [show ((l.drop a).takeWhile fun c=>yh c.toNat).length=Z5 yh (l.drop a) from rfl,←A] at c1
   have L:=o.out (a+m) (by omega)
   rw [Int.natCast_add] at L;obtain ⟨b,z⟩:∃b,b=Z5 Zd (l.drop (a+m)):=⟨_,rfl⟩;have Q:=xx Zd (l.drop (a+m));rw [←z,List.length_drop] at Q;have c2:=UM (l.drop (a+m)) J (by rw [List.length_drop];omega)
   rw [show ((l.drop (a+m)).takeWhile fun c=>Zd c.toNat).length=Z5 Zd (l.drop (a+m)) from rfl,←z] at c2
   have W:Hid (G=a+m+b+Uq (l.drop (a+m+b))):=show G=a+m+b+Uq (l.drop (a+m+b)) by
    rw [s.out];have Z:Uq (l.drop a)=m+yJ ((l.drop a).drop m):=by unfold Uq;rw [if_pos hr,←A]
    rw [Z,List.drop_drop,uc,←z,List.drop_drop];omega
   clear A z;go_wp2_with fail
   refine c1.mono ?_;clear c1;rintro e R ⟨rfl,rfl⟩;go_wp2_with fail
   refine c2.mono ?_;clear c2;rintro e R ⟨rfl,rfl⟩;go_wp2
   refine ⟨⟨a+m+b,by omega,by go_num,W.out⟩,by simp [intOf];omega⟩
end Go.Proofs.YtpejpbbdgblbeaaGreatDoor

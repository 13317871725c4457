import Derived.Test.YtpejpbbdgblbeaaGreatDoorMC0
import Derived.Lib.Strings
import Derived.Laws.DeepStrings4
import Derived.Test.YtpejpbbdgblbeaaGreatDoorShelf
namespace Go.Proofs.YtpejpbbdgblbeaaGreatDoor
open Go.RowKit
set_option maxHeartbeats 16000000
set_option maxRecDepth 100000
abbrev zb (l:List UInt8):ByteArray:=⟨l.toArray⟩
theorem Zh (l:List UInt8):(zb l).size=l.length:=rfl
theorem Xu (l:List UInt8) (a b:Nat):(zb l).extract a b=zb ((l.drop a).take (b-a)):=by
 have e:=Lib.extract_data (zb l) a b;have h:(zb l).data.toList=l:=rfl;rw [h] at e;show _=(⟨_⟩:ByteArray)
 rw [←e]
theorem Xd (w:World) (l:List UInt8) (a:Nat) (h:a≤l.length) :
  (Instr.slice 9 (.string (zb l)) (some (.int .i64 (a:Int))) none none).run Tryz.prog w=.ok (.string (zb (l.drop a))) w:=by
 rw [run_slice_string_from_if (P:=Tryz.prog) (w:=w) 9 (zb l) .i64 _ Tryz.underlying9,if_pos ⟨by omega,by rw [Zh];omega⟩]
 rw [Int.toNat_natCast,Xu,Zh,List.take_of_length_le (by rw [List.length_drop];omega)]
theorem Qw (w:World) (l:List UInt8) (b:Nat) (h:b≤l.length) :
  (Instr.slice 9 (.string (zb l)) none (some (.int .i64 (b:Int))) none).run Tryz.prog w=.ok (.string (zb (l.take b))) w:=by
 rw [run_slice_string_to_if (P:=Tryz.prog) (w:=w) 9 (zb l) .i64 _ Tryz.underlying9,if_pos ⟨by omega,by rw [Zh];omega⟩]
 rw [Int.toNat_natCast,Xu,List.drop_zero,Nat.sub_zero]
theorem zcL (w:World) (l:List UInt8) (a n:Nat) (h:a+n≤l.length) :
  (Instr.slice 9 (.string (zb l)) (some (.int .i64 (a:Int))) (some (.int .i64 ((a:Int)+(n:Int)))) none).run Tryz.prog w=.ok (.string (zb ((l.drop a).take n))) w:=by
 rw [run_slice_string_if (P:=Tryz.prog) (w:=w) 9 (zb l) .i64 .i64 _ _ Tryz.underlying9,if_pos ⟨by omega,by rw [Zh];omega⟩,if_pos ⟨by omega,by omega⟩]
 have o:((a:Int)+(n:Int)).toNat=a+n:=by omega
 rw [o,Int.toNat_natCast,Xu,show a+n-a=n by omega]
def Zv (n:Nat):Bool:=n==95||(decide (97≤n)&&decide (n≤122))||(decide (65≤n)&&decide (n≤90))
def Zw (n:Nat):Bool:=decide (48≤n)&&decide (n≤57)
def zV (n:Nat):Bool:=n==32||n==9||n==10
def yw (n:Nat):Bool:=n != 10
theorem zdj {a b:Bool} (h:a=b):Ending.returned (.bool a)=.returned (.bool b):=by rw [h]
theorem xo (n:Nat) (hn:n<256) (w:World) :
  Calls Tryz.prog 155 #[.int .u8 n] w fun e w'=>e=.returned (.bool (Zv n))∧w=w':=by
 go_enter Tryz.func155,Tryz.ntmps155
 go_wp2
 all_goals go_ret
 all_goals refine ⟨zdj ?_,rfl⟩
 all_goals (rw [Bool.eq_iff_iff];simp [Zv];try omega)
theorem XU (n:Nat) (hn:n<256) (w:World) :
  Calls Tryz.prog 157 #[.int .u8 n] w fun e w'=>e=.returned (.bool (Zw n))∧w=w':=by
 go_enter Tryz.func157,Tryz.ntmps157
 go_wp2
 all_goals go_ret
 all_goals refine ⟨zdj ?_,rfl⟩
 all_goals (rw [Bool.eq_iff_iff];simp [Zw];try omega)
theorem zal (n:Nat) (hn:n<256) (w:World) :
  Calls Tryz.prog 150 #[.int .u8 n] w fun e w'=>e=.returned (.bool (zV n))∧w=w':=by
 go_enter Tryz.func150,Tryz.ntmps150
 go_wp2
 all_goals go_ret
 all_goals refine ⟨zdj ?_,rfl⟩
 all_goals (rw [Bool.eq_iff_iff];simp [zV];try omega)
theorem zeB (n:Nat) (_:n<256) (w:World) :
  Calls Tryz.prog 151 #[.int .u8 n] w fun e w'=>e=.returned (.bool (yw n))∧w=w':=by
 go_enter Tryz.func151,Tryz.ntmps151
 go_wp2
 all_goals go_ret
 all_goals refine ⟨zdj ?_,rfl⟩
 all_goals (rw [Bool.eq_iff_iff];simp [yw];try omega)
def yu (n:Nat):Bool:=Zv n||Zw n
theorem zdk (n:Nat) (hn:n<256) (w:World) :
  Calls Tryz.prog 182 #[.int .u8 n] w fun e w'=>e=.returned (.bool (yu n))∧w=w':=by
 cases h1:Zv n with
 | true =>
  have c1:=xo n hn w;rw [h1] at c1
  go_enter Tryz.func182,Tryz.ntmps182
  go_wp2_with fail
  refine c1.mono ?_;rintro e h ⟨rfl,rfl⟩;go_wp2
  go_ret
  exact ⟨zdj (by simp [yu,h1]),rfl⟩
 | false =>
  have c1:=xo n hn w;rw [h1] at c1
  go_enter Tryz.func182,Tryz.ntmps182
  go_wp2_with fail
  refine c1.mono ?_;rintro e h ⟨rfl,rfl⟩;go_wp2_with fail
  refine (XU n hn w).mono ?_;rintro e h ⟨rfl,rfl⟩;go_wp2
  go_ret
  exact ⟨zdj (by simp [yu,h1]),rfl⟩
theorem Y8 (p:UInt8→Bool):∀(l:List UInt8) (k:Nat),k≤l.length→(∀j (h:j<l.length),j<k→p l[j]=true)→(∀h:k<l.length,p l[k]=false)→(l.takeWhile p).length=k
 | [],k,hk,_,_=>by simp at hk;simp [hk]
 | x::l,0,_,_,h2=>by
  have:=h2 (by simp)
  simp at this
  simp [this]
 | x::l,k+1,hk,h1,h2=>by
  have o:p x=true:=h1 0 (by simp) (by omega)
  have:=Y8 p l k (by simpa using hk) (fun j h hj=>h1 (j+1) (by simpa using h) (by omega)) (fun h=>h2 (by simpa using h))
  simp [o,this]
theorem qH (l:List UInt8) (w:World) (hl:l.length≤9223372036854775000) :
  Calls Tryz.prog 149 #[.string (zb l),.func (.func 150) #[] #[]] w fun e w'=>e=.returned (.int .i64 (l.takeWhile fun c=>zV c.toNat).length)∧w=w':=by
 obtain ⟨p,y⟩:∃p:UInt8→Bool,p=fun c=>zV c.toNat:=⟨_,rfl⟩
 have H:Hid (∀(c:UInt8) (wx:World),Calls Tryz.prog 150 #[.int .u8 (c.toNat:Int)] wx fun e w'=>e=.returned (.bool (p c))∧wx=w'):=fun c wx=>by rw [y];exact zal c.toNat (UInt8.toNat_lt c) wx
 rw [←y];clear y;have I:(zb l).size=l.length:=rfl
 go_enter Tryz.func149,Tryz.ntmps149
 go_wp2
 go_loop [5] (fun v=>∃i:Nat,i≤l.length∧v=.int .i64 i∧∀j (h:j<l.length),j<i→p l[j]=true) (fun v=>l.length-(intOf v).toNat)
 case atStart=>exact ⟨0,Nat.zero_le _,rfl,fun j h hj=>by omega⟩
 case round =>
  obtain ⟨i,G,rfl,o⟩:=hrel;have A:Hid (∀j (h:j<l.length),j<i→p l[j]=true):=o;clear o
  by_cases hlt:i<l.length
  ·have D:∀wx,(Instr.index 9 (.string (zb l)) (.int .i64 (i:Int))).run Tryz.prog wx=.ok (.int .u8 ((l[i]).toNat:Int)) wx:=fun wx=>by
    rw [run_index_string (P:=Tryz.prog) (w:=wx) 9 (zb l) .i64 _ Tryz.underlying9,dif_pos ⟨by omega,by rw [Zh];omega⟩]
    simp only [Int.toNat_natCast]
    rfl
   go_wp2_with fail
   refine (H.out l[i] w).mono ?_;rintro e J ⟨rfl,rfl⟩;cases hp:p l[i] with
   | true =>
    go_wp2
    refine ⟨⟨i+1,by omega,by go_num,fun j h hj=>?_⟩,by simp [intOf];omega⟩
    by_cases hji:j<i
    ·exact A.out j h hji
    ·obtain rfl:j=i:=by omega
     exact hp
   | false =>
    have z:Hid ((l.takeWhile p).length=i):=Y8 p l i G A.out (fun _=>hp)
    go_wp2
    go_ret
    rw [z.out];exact ⟨rfl,rfl⟩
  ·obtain rfl:i=l.length:=by omega
   have z:Hid ((l.takeWhile p).length=l.length):=Y8 p l l.length G A.out (fun h=>absurd h (by omega))
   go_wp2
   go_ret
   rw [z.out];exact ⟨rfl,rfl⟩
theorem zdl (l:List UInt8) (w:World) (hl:l.length≤9223372036854775000) :
  Calls Tryz.prog 149 #[.string (zb l),.func (.func 157) #[] #[]] w fun e w'=>e=.returned (.int .i64 (l.takeWhile fun c=>Zw c.toNat).length)∧w=w':=by
 obtain ⟨p,y⟩:∃p:UInt8→Bool,p=fun c=>Zw c.toNat:=⟨_,rfl⟩
 have H:Hid (∀(c:UInt8) (wx:World),Calls Tryz.prog 157 #[.int .u8 (c.toNat:Int)] wx fun e w'=>e=.returned (.bool (p c))∧wx=w'):=fun c wx=>by rw [y];exact XU c.toNat (UInt8.toNat_lt c) wx
 rw [←y];clear y;have I:(zb l).size=l.length:=rfl
 go_enter Tryz.func149,Tryz.ntmps149
 go_wp2
 go_loop [5] (fun v=>∃i:Nat,i≤l.length∧v=.int .i64 i∧∀j (h:j<l.length),j<i→p l[j]=true) (fun v=>l.length-(intOf v).toNat)
 case atStart=>exact ⟨0,Nat.zero_le _,rfl,fun j h hj=>by omega⟩
 case round =>
  obtain ⟨i,G,rfl,o⟩:=hrel;have A:Hid (∀j (h:j<l.length),j<i→p l[j]=true):=o;clear o
  by_cases hlt:i<l.length
  ·have D:∀wx,(Instr.index 9 (.string (zb l)) (.int .i64 (i:Int))).run Tryz.prog wx=.ok (.int .u8 ((l[i]).toNat:Int)) wx:=fun wx=>by
    rw [run_index_string (P:=Tryz.prog) (w:=wx) 9 (zb l) .i64 _ Tryz.underlying9,dif_pos ⟨by omega,by rw [Zh];omega⟩]
    simp only [Int.toNat_natCast]
    rfl
   go_wp2_with fail
   refine (H.out l[i] w).mono ?_;rintro e J ⟨rfl,rfl⟩;cases hp:p l[i] with
   | true =>
    go_wp2
    refine ⟨⟨i+1,by omega,by go_num,fun j h hj=>?_⟩,by simp [intOf];omega⟩
    by_cases hji:j<i
    ·exact A.out j h hji
    ·obtain rfl:j=i:=by omega
     exact hp
   | false =>
    have z:Hid ((l.takeWhile p).length=i):=Y8 p l i G A.out (fun _=>hp)
    go_wp2
    go_ret
    rw [z.out];exact ⟨rfl,rfl⟩
  ·obtain rfl:i=l.length:=by omega
   have z:Hid ((l.takeWhile p).length=l.length):=Y8 p l l.length G A.out (fun h=>absurd h (by omega))
   go_wp2
   go_ret
   rw [z.out];exact ⟨rfl,rfl⟩
theorem zdm (l:List UInt8) (w:World) (hl:l.length≤9223372036854775000) :
  Calls Tryz.prog 149 #[.string (zb l),.func (.func 151) #[] #[]] w fun e w'=>e=.returned (.int .i64 (l.takeWhile fun c=>yw c.toNat).length)∧w=w':=by
 obtain ⟨p,y⟩:∃p:UInt8→Bool,p=fun c=>yw c.toNat:=⟨_,rfl⟩
 have H:Hid (∀(c:UInt8) (wx:World),Calls Tryz.prog 151 #[.int .u8 (c.toNat:Int)] wx fun e w'=>e=.returned (.bool (p c))∧wx=w'):=fun c wx=>by rw [y];exact zeB c.toNat (UInt8.toNat_lt c) wx
 rw [←y];clear y;have I:(zb l).size=l.length:=rfl
 go_enter Tryz.func149,Tryz.ntmps149
 go_wp2
 go_loop [5] (fun v=>∃i:Nat,i≤l.length∧v=.int .i64 i∧∀j (h:j<l.length),j<i→p l[j]=true) (fun v=>l.length-(intOf v).toNat)
 case atStart=>exact ⟨0,Nat.zero_le _,rfl,fun j h hj=>by omega⟩
 case round =>
  obtain ⟨i,G,rfl,o⟩:=hrel;have A:Hid (∀j (h:j<l.length),j<i→p l[j]=true):=o;clear o
  by_cases hlt:i<l.length
  ·have D:∀wx,(Instr.index 9 (.string (zb l)) (.int .i64 (i:Int))).run Tryz.prog wx=.ok (.int .u8 ((l[i]).toNat:Int)) wx:=fun wx=>by
    rw [run_index_string (P:=Tryz.prog) (w:=wx) 9 (zb l) .i64 _ Tryz.underlying9,dif_pos ⟨by omega,by rw [Zh];omega⟩]
    simp only [Int.toNat_natCast]
    rfl
   go_wp2_with fail
   refine (H.out l[i] w).mono ?_;rintro e J ⟨rfl,rfl⟩;cases hp:p l[i] with
   | true =>
    go_wp2
    refine ⟨⟨i+1,by omega,by go_num,fun j h hj=>?_⟩,by simp [intOf];omega⟩
    by_cases hji:j<i
    ·exact A.out j h hji
    ·obtain rfl:j=i:=by omega
     exact hp
   | false =>
    have z:Hid ((l.takeWhile p).length=i):=Y8 p l i G A.out (fun _=>hp)
    go_wp2
    go_ret
    rw [z.out];exact ⟨rfl,rfl⟩
  ·obtain rfl:i=l.length:=by omega
   have z:Hid ((l.takeWhile p).length=l.length):=Y8 p l l.length G A.out (fun h=>absurd h (by omega))
   go_wp2
   go_ret
   rw [z.out];exact ⟨rfl,rfl⟩
theorem zeC (l:List UInt8) (w:World) (hl:l.length≤9223372036854775000) :
  Calls Tryz.prog 149 #[.string (zb l),.func (.func 182) #[] #[]] w fun e w'=>e=.returned (.int .i64 (l.takeWhile fun c=>yu c.toNat).length)∧w=w':=by
 obtain ⟨p,y⟩:∃p:UInt8→Bool,p=fun c=>yu c.toNat:=⟨_,rfl⟩
 have H:Hid (∀(c:UInt8) (wx:World),Calls Tryz.prog 182 #[.int .u8 (c.toNat:Int)] wx fun e w'=>e=.returned (.bool (p c))∧wx=w'):=fun c wx=>by rw [y];exact zdk c.toNat (UInt8.toNat_lt c) wx
 rw [←y];clear y;have I:(zb l).size=l.length:=rfl
 go_enter Tryz.func149,Tryz.ntmps149
 go_wp2
 go_loop [5] (fun v=>∃i:Nat,i≤l.length∧v=.int .i64 i∧∀j (h:j<l.length),j<i→p l[j]=true) (fun v=>l.length-(intOf v).toNat)
 case atStart=>exact ⟨0,Nat.zero_le _,rfl,fun j h hj=>by omega⟩
 case round =>
  obtain ⟨i,G,rfl,o⟩:=hrel;have A:Hid (∀j (h:j<l.length),j<i→p l[j]=true):=o;clear o
  by_cases hlt:i<l.length
  ·have D:∀wx,(Instr.index 9 (.string (zb l)) (.int .i64 (i:Int))).run Tryz.prog wx=.ok (.int .u8 ((l[i]).toNat:Int)) wx:=fun wx=>by
    rw [run_index_string (P:=Tryz.prog) (w:=wx) 9 (zb l) .i64 _ Tryz.underlying9,dif_pos ⟨by omega,by rw [Zh];omega⟩]
    simp only [Int.toNat_natCast]
    rfl
   go_wp2_with fail
   refine (H.out l[i] w).mono ?_;rintro e J ⟨rfl,rfl⟩;cases hp:p l[i] with
   | true =>
    go_wp2
    refine ⟨⟨i+1,by omega,by go_num,fun j h hj=>?_⟩,by simp [intOf];omega⟩
    by_cases hji:j<i
    ·exact A.out j h hji
    ·obtain rfl:j=i:=by omega
     exact hp
   | false =>
    have z:Hid ((l.takeWhile p).length=i):=Y8 p l i G A.out (fun _=>hp)
    go_wp2
    go_ret
    rw [z.out];exact ⟨rfl,rfl⟩
  ·obtain rfl:i=l.length:=by omega
   have z:Hid ((l.takeWhile p).length=l.length):=Y8 p l l.length G A.out (fun h=>absurd h (by omega))
   go_wp2
   go_ret
   rw [z.out];exact ⟨rfl,rfl⟩
def wordsL:List (List UInt8):=[[102,110],[114,101,99,111,114,100],[108,101,116],[105,102],[101,108,115,101],[119,104,105,108,101],[114,101,116,117,114,110],[110,101,119],[116,114,117,101],[102,97,108,115,101]]
def signsL:List (List UInt8):=[[40],[41],[123],[125],[91],[93],[44],[58],[59],[46],[61],[61,61],[33,61],[60],[60,61],[62],[62,61],[43],[45],[42],[47],[37],[33],[38,38],[124,124]]
structure yI (w:World):Prop where
 words:∀j (h:j<wordsL.length),w.cell? ⟨4,j,none⟩=some (.string (zb wordsL[j]))
 signs:∀j (h:j<signsL.length),w.cell? ⟨3,j,none⟩=some (.string (zb signsL[j]))
 escs:∀j (h:j<6),w.cell? ⟨5,j,none⟩=some (.int .u8 ([92,92,34,34,10,110][j]:Nat))
 range:∃te pe,w.cell? ⟨7,0,none⟩=some (.iface te pe)
def yp (l:List UInt8):Bool:=wordsL.contains l
theorem zdn (w:World) (i:Nat) (h:i<10):(Instr.index 226 (.agg #[.string (zb wordsL[0]),.string (zb wordsL[1]),.string (zb wordsL[2]),.string (zb wordsL[3]),.string (zb wordsL[4]),.string (zb wordsL[5]),.string (zb wordsL[6]),.string (zb wordsL[7]),.string (zb wordsL[8]),.string (zb wordsL[9])]) (.int .i64 (i:Int))).run Tryz.prog w=.ok (.string (zb (wordsL[i]'h))) w:=by
 have o:i=0∨i=1∨i=2∨i=3∨i=4∨i=5∨i=6∨i=7∨i=8∨i=9:=by omega
 rcases o with rfl | rfl | rfl | rfl | rfl | rfl | rfl | rfl | rfl | rfl
 all_goals rfl
theorem zdo (w:World) (i:Nat) (h:i<25):(Instr.index 216 (.agg #[.string (zb signsL[0]),.string (zb signsL[1]),.string (zb signsL[2]),.string (zb signsL[3]),.string (zb signsL[4]),.string (zb signsL[5]),.string (zb signsL[6]),.string (zb signsL[7]),.string (zb signsL[8]),.string (zb signsL[9]),.string (zb signsL[10]),.string (zb signsL[11]),.string (zb signsL[12]),.string (zb signsL[13]),.string (zb signsL[14]),.string (zb signsL[15]),.string (zb signsL[16]),.string (zb signsL[17]),.string (zb signsL[18]),.string (zb signsL[19]),.string (zb signsL[20]),.string (zb signsL[21]),.string (zb signsL[22]),.string (zb signsL[23]),.string (zb signsL[24])]) (.int .i64 (i:Int))).run Tryz.prog w=.ok (.string (zb (signsL[i]'h))) w:=by
 have o:i=0∨i=1∨i=2∨i=3∨i=4∨i=5∨i=6∨i=7∨i=8∨i=9∨i=10∨i=11∨i=12∨i=13∨i=14∨i=15∨i=16∨i=17∨i=18∨i=19∨i=20∨i=21∨i=22∨i=23∨i=24:=by omega
 rcases o with rfl | rfl | rfl | rfl | rfl | rfl | rfl | rfl | rfl | rfl | rfl | rfl | rfl | rfl | rfl | rfl | rfl | rfl | rfl | rfl | rfl | rfl | rfl | rfl | rfl
 all_goals rfl
theorem ziz {a b:List UInt8}:(a==b)=decide (a=b):=by by_cases h:a=b <;> simp [h]
theorem zgc {l:List UInt8} {i:Nat} (h:i<wordsL.length) (he:wordsL[i]=l):yp l=true:=by
 unfold yp;rw [List.contains_iff_mem];rw [←he];exact List.getElem_mem h
theorem zeD {l:List UInt8} (h:∀j (h:j<wordsL.length),wordsL[j]≠l):yp l=false:=by
 unfold yp
 rw [Bool.eq_false_iff];intro o;rw [List.contains_iff_mem] at o;obtain ⟨j,y,z⟩:=List.getElem_of_mem o;exact h j y z
theorem zeE (l:List UInt8) (w:World) (ht:yI w) :
  Calls Tryz.prog 183 #[.string (zb l)] w fun e w'=>e=.returned (.bool (yp l))∧w=w':=by
 have J:=ht.words 0 (by decide)
 have U:=ht.words 1 (by decide)
 have O:=ht.words 2 (by decide)
 have R:=ht.words 3 (by decide)
 have I:=ht.words 4 (by decide)
 have Q:=ht.words 5 (by decide)
 have L:=ht.words 6 (by decide)
 have V:=ht.words 7 (by decide)
 have W:=ht.words 8 (by decide)
 have N:=ht.words 9 (by decide)
 clear ht
 go_enter Tryz.func183,Tryz.ntmps183
 go_wp2
 clear J U O R I Q L V W N
 go_loop [6] (fun v=>∃i:Nat,i≤10∧v=.int .i64 i∧∀j (h:j<wordsL.length),j<i→wordsL[j]≠l) (fun v=>10-(intOf v).toNat)
 case atStart=>exact ⟨0,Nat.zero_le _,rfl,fun j h hj=>by omega⟩
 case round =>
  obtain ⟨i,Z,rfl,o⟩:=hrel;have G:Hid (∀j (h:j<wordsL.length),j<i→wordsL[j]≠l):=o;clear o
  by_cases hlt:i<10
  ·have z:=fun wx=>zdn wx i hlt
   obtain ⟨x,D⟩:∃x,x=wordsL[i]'hlt:=⟨_,rfl⟩;rw [←D] at z;have H:Hid (x=wordsL[i]'hlt):=D;clear D
   by_cases y:x=l
   ·subst y
    have A:Hid (yp x=true):=zgc (i:=i) hlt H.out.symm;go_wp2
    go_ret
    rw [A.out];exact ⟨rfl,rfl⟩
   ·have T:Hid (x≠l):=y
    have Y:(x==l)=false:=by rw [ziz];exact decide_eq_false y
    clear y;go_wp2
    refine ⟨⟨i+1,by omega,by go_num,fun j h hj=>?_⟩,by simp [intOf];omega⟩
    by_cases hji:j<i
    ·exact G.out j h hji
    ·obtain rfl:j=i:=by omega
     intro y;exact T.out (H.out.trans y)
  ·obtain rfl:i=10:=by omega
   have A:Hid (yp l=false):=zeD (fun j h=>G.out j h h)
   go_wp2
   go_ret
   rw [A.out];exact ⟨rfl,rfl⟩
def Z6 (p:Nat→Bool) (l:List UInt8):Nat:=(l.takeWhile fun c=>p c.toNat).length
theorem xN (p:Nat→Bool) (l:List UInt8):Z6 p l≤l.length:=by
 unfold Z6
 exact (List.takeWhile_sublist _).length_le
def XV (l:List UInt8):Bool:=Lib.hasPrefix l [47,47]
theorem zdp {l:List UInt8} (h:XV l=true):∃t,l=47::47::t:=by
 unfold XV Lib.hasPrefix at h
 match l,h with
 | [],h=>simp at h
 | [a],h=>simp at h
 | a::b::t,h=>simp at h;exact ⟨t,by rw [←h.1,←h.2]⟩
theorem XW {l:List UInt8} (h:XV l=true):2≤Z6 yw l:=by
 obtain ⟨t,rfl⟩:=zdp h
 unfold Z6
 rw [List.takeWhile_cons_of_pos (by decide),List.takeWhile_cons_of_pos (by decide)]
 simp
def Z4 (l:List UInt8):Nat :=
 if _h:XV (l.drop (Z6 zV l))=true then
  Z6 zV l+(Z6 yw (l.drop (Z6 zV l))+Z4 ((l.drop (Z6 zV l)).drop (Z6 yw (l.drop (Z6 zV l)))))
 else Z6 zV l
termination_by l.length
decreasing_by
 have:=XW ‹_›
 have h3:=xN yw (l.drop (Z6 zV l));simp only [List.length_drop] at *;omega
def Uj (r:List UInt8):Nat:=if XV r=true then Z6 yw r+Z4 (r.drop (Z6 yw r)) else 0
theorem vF (l:List UInt8):Z4 l=Z6 zV l+Uj (l.drop (Z6 zV l)):=by
 rw [Z4]
 unfold Uj
 by_cases h:XV (l.drop (Z6 zV l))=true
 ·rw [dif_pos h,if_pos h]
 ·rw [dif_neg h,if_neg h];rfl
theorem Qx:∀(n:Nat) (l:List UInt8),l.length≤n→Z4 l≤l.length
 | n,l,hn=>by
  rw [Z4];have z:=xN zV l
  by_cases h:XV (l.drop (Z6 zV l))=true
  ·rw [dif_pos h]
   have A:=XW h;have o:=xN yw (l.drop (Z6 zV l));rw [List.length_drop] at o;have y:=Qx (n-1) ((l.drop (Z6 zV l)).drop (Z6 yw (l.drop (Z6 zV l)))) (by simp only [List.length_drop];omega)
   simp only [List.length_drop] at y;omega
  ·rw [dif_neg h];exact z
termination_by _ l=>l.length
decreasing_by
 have:=XW ‹_›
 have h3:=xN yw (l.drop (Z6 zV l));simp only [List.length_drop] at *;omega
theorem zgd (l:List UInt8) (w:World) (hl:l.length≤9223372036854775000) :
  Calls Tryz.prog 127 #[.string (zb l)] w fun e w'=>e=.returned (.int .i64 (Z4 l))∧w=w':=by
 obtain ⟨G,D⟩:∃G,G=Z4 l:=⟨_,rfl⟩;have aa:G≤l.length:=by rw [D];exact Qx _ l (Nat.le_refl _)
 have I:=xN zV l;have U:Hid (G=Z6 zV l+Uj (l.drop (Z6 zV l))):=show G=_ by rw [D];exact vF l
 have o:Hid (∀a,a≤l.length→∀wx,(Instr.slice 9 (.string (zb l)) (some (.int .i64 (a:Int))) none none).run Tryz.prog wx=.ok (.string (zb (l.drop a))) wx):=fun a h wx=>Xd wx l a h
 rw [←D];clear D
 go_enter Tryz.func127,Tryz.ntmps127
 go_wp2_with fail
 have Q:=qH l w hl;rw [show (l.takeWhile fun c=>zV c.toNat).length=Z6 zV l from rfl] at Q
 refine Q.mono ?_;clear Q;rintro e L ⟨rfl,rfl⟩;go_wp2_with fail
 go_loop [3] (fun v=>∃a:Nat,a≤l.length∧v=.int .i64 a∧G=a+Uj (l.drop a)) (fun v=>l.length-(intOf v).toNat)
 case atStart=>exact ⟨_,I,rfl,U.out⟩
 case round =>
  obtain ⟨a,V,rfl,y⟩:=hrel;have z:Hid (G=a+Uj (l.drop a)):=y;have ab:=o.out a V;clear y;have N:=Tryz.strings_HasPrefix (zb (l.drop a)) ⟨#[47,47]⟩ w;rw [show Lib.hasPrefix (zb (l.drop a)).data.toList (⟨#[47,47]⟩:ByteArray).data.toList=XV (l.drop a) from rfl] at N
  go_wp2_with fail
  refine N.mono ?_;clear N;rintro e L ⟨rfl,rfl⟩;cases hr:XV (l.drop a) with
  | false =>
   have O:G=a:=by rw [z.out];unfold Uj;rw [hr];rfl
   subst O;go_wp2
   go_ret
   exact ⟨rfl,rfl⟩
  | true =>
   have Z:=XW hr;have R:=xN yw (l.drop a);rw [List.length_drop] at R;obtain ⟨m,H⟩:∃m,m=Z6 yw (l.drop a):=⟨_,rfl⟩;rw [←H] at Z R;have c1:=zdm (l.drop a) L (by rw [List.length_drop];omega)
   rw [show ((l.drop a).takeWhile fun c=>yw c.toNat).length=Z6 yw (l.drop a) from rfl,←H] at c1
   have J:=o.out (a+m) (by omega)
   rw [Int.natCast_add] at J;obtain ⟨b,A⟩:∃b,b=Z6 zV (l.drop (a+m)):=⟨_,rfl⟩;have T:=xN zV (l.drop (a+m));rw [←A,List.length_drop] at T;have c2:=qH (l.drop (a+m)) L (by rw [List.length_drop];omega)
   rw [show ((l.drop (a+m)).takeWhile fun c=>zV c.toNat).length=Z6 zV (l.drop (a+m)) from rfl,←A] at c2
   have HN:Hid (G=a+m+b+Uj (l.drop (a+m+b))):=show G=a+m+b+Uj (l.drop (a+m+b)) by
    rw [z.out];have Y:Uj (l.drop a)=m+Z4 ((l.drop a).drop m):=by unfold Uj;rw [if_pos hr,←H]
    rw [Y,List.drop_drop,vF,←A,List.drop_drop];omega
   clear H A;go_wp2_with fail
   refine c1.mono ?_;clear c1;rintro e W ⟨rfl,rfl⟩;go_wp2_with fail
   refine c2.mono ?_;clear c2;rintro e W ⟨rfl,rfl⟩;go_wp2
   refine ⟨⟨a+m+b,by omega,by go_num,HN.out⟩,by simp [intOf];omega⟩
end Go.Proofs.YtpejpbbdgblbeaaGreatDoor

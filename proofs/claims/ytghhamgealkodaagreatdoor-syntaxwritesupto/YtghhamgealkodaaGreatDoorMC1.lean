import Derived.Test.YtghhamgealkodaaGreatDoorWAll
import Derived.Lib.Strings
import Derived.Laws.DeepStrings4
import Derived.Test.YtghhamgealkodaaGreatDoorShelf
namespace Go.Proofs.YtghhamgealkodaaGreatDoor
open Go.RowKit
set_option maxRecDepth 100000
abbrev strB (l:List UInt8):ByteArray:=⟨l.toArray⟩
theorem strB_size (l:List UInt8):(strB l).size=l.length:=rfl
theorem strB_extract (l:List UInt8) (a b:Nat):(strB l).extract a b=strB ((l.drop a).take (b-a)):=by
 have e:=Lib.extract_data (strB l) a b
 have e2:(strB l).data.toList=l:=rfl
 rw [e2] at e
 show _=(⟨_⟩:ByteArray)
 rw [←e]
theorem str_from (w:World) (l:List UInt8) (a:Nat) (h:a≤l.length) :
  (Instr.slice 9 (.string (strB l)) (some (.int .i64 (a:Int))) none none).run Tryz.prog w=.ok (.string (strB (l.drop a))) w:=by
 rw [run_slice_string_from_if (P:=Tryz.prog) (w:=w) 9 (strB l) .i64 _ Tryz.underlying9,if_pos ⟨by omega,by rw [strB_size];omega⟩]
 rw [Int.toNat_natCast,strB_extract,strB_size,List.take_of_length_le (by rw [List.length_drop];omega)]
theorem str_to (w:World) (l:List UInt8) (b:Nat) (h:b≤l.length) :
  (Instr.slice 9 (.string (strB l)) none (some (.int .i64 (b:Int))) none).run Tryz.prog w=.ok (.string (strB (l.take b))) w:=by
 rw [run_slice_string_to_if (P:=Tryz.prog) (w:=w) 9 (strB l) .i64 _ Tryz.underlying9,if_pos ⟨by omega,by rw [strB_size];omega⟩]
 rw [Int.toNat_natCast,strB_extract,List.drop_zero,Nat.sub_zero]
theorem str_sub (w:World) (l:List UInt8) (a n:Nat) (h:a+n≤l.length) :
  (Instr.slice 9 (.string (strB l)) (some (.int .i64 (a:Int))) (some (.int .i64 ((a:Int)+(n:Int)))) none).run Tryz.prog w=.ok (.string (strB ((l.drop a).take n))) w:=by
 rw [run_slice_string_if (P:=Tryz.prog) (w:=w) 9 (strB l) .i64 .i64 _ _ Tryz.underlying9,if_pos ⟨by omega,by rw [strB_size];omega⟩,if_pos ⟨by omega,by omega⟩]
 have e1:((a:Int)+(n:Int)).toNat=a+n:=by omega
 rw [e1,Int.toNat_natCast,strB_extract,show a+n-a=n by omega]
def letterN (n:Nat):Bool:=n==95||(decide (97≤n)&&decide (n≤122))||(decide (65≤n)&&decide (n≤90))
def digitN (n:Nat):Bool:=decide (48≤n)&&decide (n≤57)
def blankN (n:Nat):Bool:=n==32||n==9||n==10
def noEndN (n:Nat):Bool:=n != 10
theorem retb {a b:Bool} (h:a=b):Ending.returned (.bool a)=.returned (.bool b):=by rw [h]
set_option maxHeartbeats 1000000 in
theorem beginsName_any (n:Nat) (hn:n<256) (w:World) :
  Calls Tryz.prog 162 #[.int .u8 n] w fun e w'=>e=.returned (.bool (letterN n))∧w=w':=by
 go_enter Tryz.func162,Tryz.ntmps162
 go_wp2
 all_goals go_ret
 all_goals refine ⟨retb ?_,rfl⟩
 all_goals (rw [Bool.eq_iff_iff];simp [letterN];try omega)
set_option maxHeartbeats 1000000 in
theorem isDigit_any (n:Nat) (hn:n<256) (w:World) :
  Calls Tryz.prog 164 #[.int .u8 n] w fun e w'=>e=.returned (.bool (digitN n))∧w=w':=by
 go_enter Tryz.func164,Tryz.ntmps164
 go_wp2
 all_goals go_ret
 all_goals refine ⟨retb ?_,rfl⟩
 all_goals (rw [Bool.eq_iff_iff];simp [digitN];try omega)
set_option maxHeartbeats 1000000 in
theorem isBlank_any (n:Nat) (hn:n<256) (w:World) :
  Calls Tryz.prog 157 #[.int .u8 n] w fun e w'=>e=.returned (.bool (blankN n))∧w=w':=by
 go_enter Tryz.func157,Tryz.ntmps157
 go_wp2
 all_goals go_ret
 all_goals refine ⟨retb ?_,rfl⟩
 all_goals (rw [Bool.eq_iff_iff];simp [blankN];try omega)
set_option maxHeartbeats 1000000 in
theorem gap1_any (n:Nat) (_:n<256) (w:World) :
  Calls Tryz.prog 158 #[.int .u8 n] w fun e w'=>e=.returned (.bool (noEndN n))∧w=w':=by
 go_enter Tryz.func158,Tryz.ntmps158
 go_wp2
 all_goals go_ret
 all_goals refine ⟨retb ?_,rfl⟩
 all_goals (rw [Bool.eq_iff_iff];simp [noEndN];try omega)
def nameN (n:Nat):Bool:=letterN n||digitN n
set_option maxHeartbeats 1000000 in
theorem name1_any (n:Nat) (hn:n<256) (w:World) :
  Calls Tryz.prog 187 #[.int .u8 n] w fun e w'=>e=.returned (.bool (nameN n))∧w=w':=by
 cases h1:letterN n with
 | true =>
  have c1:=beginsName_any n hn w
  rw [h1] at c1
  go_enter Tryz.func187,Tryz.ntmps187
  go_wp2_with fail
  refine c1.mono ?_
  rintro e w1 ⟨rfl,rfl⟩
  go_wp2
  go_ret
  exact ⟨retb (by simp [nameN,h1]),rfl⟩
 | false =>
  have c1:=beginsName_any n hn w
  rw [h1] at c1
  go_enter Tryz.func187,Tryz.ntmps187
  go_wp2_with fail
  refine c1.mono ?_
  rintro e w1 ⟨rfl,rfl⟩
  go_wp2_with fail
  refine (isDigit_any n hn w).mono ?_
  rintro e w1 ⟨rfl,rfl⟩
  go_wp2
  go_ret
  exact ⟨retb (by simp [nameN,h1]),rfl⟩
theorem row_len (p:UInt8→Bool):∀(l:List UInt8) (k:Nat),k≤l.length→(∀j (h:j<l.length),j<k→p l[j]=true)→(∀h:k<l.length,p l[k]=false)→(l.takeWhile p).length=k
 | [],k,hk,_,_=>by simp at hk;simp [hk]
 | x::l,0,_,_,h2=>by
  have:=h2 (by simp)
  simp at this
  simp [this]
 | x::l,k+1,hk,h1,h2=>by
  have h0:p x=true:=h1 0 (by simp) (by omega)
  have:=row_len p l k (by simpa using hk) (fun j h hj=>h1 (j+1) (by simpa using h) (by omega)) (fun h=>h2 (by simpa using h))
  simp [h0,this]
set_option maxHeartbeats 1000000 in
theorem row_blank (l:List UInt8) (w:World) (hl:l.length≤9223372036854775000) :
  Calls Tryz.prog 156 #[.string (strB l),.func (.func 157) #[] #[]] w fun e w'=>e=.returned (.int .i64 (l.takeWhile fun c=>blankN c.toNat).length)∧w=w':=by
 obtain ⟨p,hpe⟩:∃p:UInt8→Bool,p=fun c=>blankN c.toNat:=⟨_,rfl⟩
 have HK:Hid (∀(c:UInt8) (wx:World),Calls Tryz.prog 157 #[.int .u8 (c.toNat:Int)] wx fun e w'=>e=.returned (.bool (p c))∧wx=w'):=fun c wx=>by rw [hpe];exact isBlank_any c.toNat (UInt8.toNat_lt c) wx
 rw [←hpe]
 clear hpe
 have hsz:(strB l).size=l.length:=rfl
 go_enter Tryz.func156,Tryz.ntmps156
 go_wp2
 go_loop [5] (fun v=>∃i:Nat,i≤l.length∧v=.int .i64 i∧∀j (h:j<l.length),j<i→p l[j]=true) (fun v=>l.length-(intOf v).toNat)
 case atStart=>exact ⟨0,Nat.zero_le _,rfl,fun j h hj=>by omega⟩
 case round =>
  obtain ⟨i,hi,rfl,hall⟩:=hrel
  have HA:Hid (∀j (h:j<l.length),j<i→p l[j]=true):=hall
  clear hall
  by_cases hlt:i<l.length
  ·have hidx:∀wx,(Instr.index 9 (.string (strB l)) (.int .i64 (i:Int))).run Tryz.prog wx=.ok (.int .u8 ((l[i]).toNat:Int)) wx:=fun wx=>by
    rw [run_index_string (P:=Tryz.prog) (w:=wx) 9 (strB l) .i64 _ Tryz.underlying9,dif_pos ⟨by omega,by rw [strB_size];omega⟩]
    simp only [Int.toNat_natCast]
    rfl
   go_wp2_with fail
   refine (HK.out l[i] w).mono ?_
   rintro e w1 ⟨rfl,rfl⟩
   cases hp:p l[i] with
   | true =>
    go_wp2
    refine ⟨⟨i+1,by omega,by go_num,fun j h hj=>?_⟩,by simp [intOf];omega⟩
    by_cases hji:j<i
    ·exact HA.out j h hji
    ·obtain rfl:j=i:=by omega
     exact hp
   | false =>
    have HL:Hid ((l.takeWhile p).length=i):=row_len p l i hi HA.out (fun _=>hp)
    go_wp2
    go_ret
    rw [HL.out]
    exact ⟨rfl,rfl⟩
  ·obtain rfl:i=l.length:=by omega
   have HL:Hid ((l.takeWhile p).length=l.length):=row_len p l l.length hi HA.out (fun h=>absurd h (by omega))
   go_wp2
   go_ret
   rw [HL.out]
   exact ⟨rfl,rfl⟩
set_option maxHeartbeats 1000000 in
theorem row_digit (l:List UInt8) (w:World) (hl:l.length≤9223372036854775000) :
  Calls Tryz.prog 156 #[.string (strB l),.func (.func 164) #[] #[]] w fun e w'=>e=.returned (.int .i64 (l.takeWhile fun c=>digitN c.toNat).length)∧w=w':=by
 obtain ⟨p,hpe⟩:∃p:UInt8→Bool,p=fun c=>digitN c.toNat:=⟨_,rfl⟩
 have HK:Hid (∀(c:UInt8) (wx:World),Calls Tryz.prog 164 #[.int .u8 (c.toNat:Int)] wx fun e w'=>e=.returned (.bool (p c))∧wx=w'):=fun c wx=>by rw [hpe];exact isDigit_any c.toNat (UInt8.toNat_lt c) wx
 rw [←hpe]
 clear hpe
 have hsz:(strB l).size=l.length:=rfl
 go_enter Tryz.func156,Tryz.ntmps156
 go_wp2
 go_loop [5] (fun v=>∃i:Nat,i≤l.length∧v=.int .i64 i∧∀j (h:j<l.length),j<i→p l[j]=true) (fun v=>l.length-(intOf v).toNat)
 case atStart=>exact ⟨0,Nat.zero_le _,rfl,fun j h hj=>by omega⟩
 case round =>
  obtain ⟨i,hi,rfl,hall⟩:=hrel
  have HA:Hid (∀j (h:j<l.length),j<i→p l[j]=true):=hall
  clear hall
  by_cases hlt:i<l.length
  ·have hidx:∀wx,(Instr.index 9 (.string (strB l)) (.int .i64 (i:Int))).run Tryz.prog wx=.ok (.int .u8 ((l[i]).toNat:Int)) wx:=fun wx=>by
    rw [run_index_string (P:=Tryz.prog) (w:=wx) 9 (strB l) .i64 _ Tryz.underlying9,dif_pos ⟨by omega,by rw [strB_size];omega⟩]
    simp only [Int.toNat_natCast]
    rfl
   go_wp2_with fail
   refine (HK.out l[i] w).mono ?_
   rintro e w1 ⟨rfl,rfl⟩
   cases hp:p l[i] with
   | true =>
    go_wp2
    refine ⟨⟨i+1,by omega,by go_num,fun j h hj=>?_⟩,by simp [intOf];omega⟩
    by_cases hji:j<i
    ·exact HA.out j h hji
    ·obtain rfl:j=i:=by omega
     exact hp
   | false =>
    have HL:Hid ((l.takeWhile p).length=i):=row_len p l i hi HA.out (fun _=>hp)
    go_wp2
    go_ret
    rw [HL.out]
    exact ⟨rfl,rfl⟩
  ·obtain rfl:i=l.length:=by omega
   have HL:Hid ((l.takeWhile p).length=l.length):=row_len p l l.length hi HA.out (fun h=>absurd h (by omega))
   go_wp2
   go_ret
   rw [HL.out]
   exact ⟨rfl,rfl⟩
set_option maxHeartbeats 1000000 in
theorem row_noEnd (l:List UInt8) (w:World) (hl:l.length≤9223372036854775000) :
  Calls Tryz.prog 156 #[.string (strB l),.func (.func 158) #[] #[]] w fun e w'=>e=.returned (.int .i64 (l.takeWhile fun c=>noEndN c.toNat).length)∧w=w':=by
 obtain ⟨p,hpe⟩:∃p:UInt8→Bool,p=fun c=>noEndN c.toNat:=⟨_,rfl⟩
 have HK:Hid (∀(c:UInt8) (wx:World),Calls Tryz.prog 158 #[.int .u8 (c.toNat:Int)] wx fun e w'=>e=.returned (.bool (p c))∧wx=w'):=fun c wx=>by rw [hpe];exact gap1_any c.toNat (UInt8.toNat_lt c) wx
 rw [←hpe]
 clear hpe
 have hsz:(strB l).size=l.length:=rfl
 go_enter Tryz.func156,Tryz.ntmps156
 go_wp2
 go_loop [5] (fun v=>∃i:Nat,i≤l.length∧v=.int .i64 i∧∀j (h:j<l.length),j<i→p l[j]=true) (fun v=>l.length-(intOf v).toNat)
 case atStart=>exact ⟨0,Nat.zero_le _,rfl,fun j h hj=>by omega⟩
 case round =>
  obtain ⟨i,hi,rfl,hall⟩:=hrel
  have HA:Hid (∀j (h:j<l.length),j<i→p l[j]=true):=hall
  clear hall
  by_cases hlt:i<l.length
  ·have hidx:∀wx,(Instr.index 9 (.string (strB l)) (.int .i64 (i:Int))).run Tryz.prog wx=.ok (.int .u8 ((l[i]).toNat:Int)) wx:=fun wx=>by
    rw [run_index_string (P:=Tryz.prog) (w:=wx) 9 (strB l) .i64 _ Tryz.underlying9,dif_pos ⟨by omega,by rw [strB_size];omega⟩]
    simp only [Int.toNat_natCast]
    rfl
   go_wp2_with fail
   refine (HK.out l[i] w).mono ?_
   rintro e w1 ⟨rfl,rfl⟩
   cases hp:p l[i] with
   | true =>
    go_wp2
    refine ⟨⟨i+1,by omega,by go_num,fun j h hj=>?_⟩,by simp [intOf];omega⟩
    by_cases hji:j<i
    ·exact HA.out j h hji
    ·obtain rfl:j=i:=by omega
     exact hp
   | false =>
    have HL:Hid ((l.takeWhile p).length=i):=row_len p l i hi HA.out (fun _=>hp)
    go_wp2
    go_ret
    rw [HL.out]
    exact ⟨rfl,rfl⟩
  ·obtain rfl:i=l.length:=by omega
   have HL:Hid ((l.takeWhile p).length=l.length):=row_len p l l.length hi HA.out (fun h=>absurd h (by omega))
   go_wp2
   go_ret
   rw [HL.out]
   exact ⟨rfl,rfl⟩
set_option maxHeartbeats 1000000 in
theorem row_name (l:List UInt8) (w:World) (hl:l.length≤9223372036854775000) :
  Calls Tryz.prog 156 #[.string (strB l),.func (.func 187) #[] #[]] w fun e w'=>e=.returned (.int .i64 (l.takeWhile fun c=>nameN c.toNat).length)∧w=w':=by
 obtain ⟨p,hpe⟩:∃p:UInt8→Bool,p=fun c=>nameN c.toNat:=⟨_,rfl⟩
 have HK:Hid (∀(c:UInt8) (wx:World),Calls Tryz.prog 187 #[.int .u8 (c.toNat:Int)] wx fun e w'=>e=.returned (.bool (p c))∧wx=w'):=fun c wx=>by rw [hpe];exact name1_any c.toNat (UInt8.toNat_lt c) wx
 rw [←hpe]
 clear hpe
 have hsz:(strB l).size=l.length:=rfl
 go_enter Tryz.func156,Tryz.ntmps156
 go_wp2
 go_loop [5] (fun v=>∃i:Nat,i≤l.length∧v=.int .i64 i∧∀j (h:j<l.length),j<i→p l[j]=true) (fun v=>l.length-(intOf v).toNat)
 case atStart=>exact ⟨0,Nat.zero_le _,rfl,fun j h hj=>by omega⟩
 case round =>
  obtain ⟨i,hi,rfl,hall⟩:=hrel
  have HA:Hid (∀j (h:j<l.length),j<i→p l[j]=true):=hall
  clear hall
  by_cases hlt:i<l.length
  ·have hidx:∀wx,(Instr.index 9 (.string (strB l)) (.int .i64 (i:Int))).run Tryz.prog wx=.ok (.int .u8 ((l[i]).toNat:Int)) wx:=fun wx=>by
    rw [run_index_string (P:=Tryz.prog) (w:=wx) 9 (strB l) .i64 _ Tryz.underlying9,dif_pos ⟨by omega,by rw [strB_size];omega⟩]
    simp only [Int.toNat_natCast]
    rfl
   go_wp2_with fail
   refine (HK.out l[i] w).mono ?_
   rintro e w1 ⟨rfl,rfl⟩
   cases hp:p l[i] with
   | true =>
    go_wp2
    refine ⟨⟨i+1,by omega,by go_num,fun j h hj=>?_⟩,by simp [intOf];omega⟩
    by_cases hji:j<i
    ·exact HA.out j h hji
    ·obtain rfl:j=i:=by omega
     exact hp
   | false =>
    have HL:Hid ((l.takeWhile p).length=i):=row_len p l i hi HA.out (fun _=>hp)
    go_wp2
    go_ret
    rw [HL.out]
    exact ⟨rfl,rfl⟩
  ·obtain rfl:i=l.length:=by omega
   have HL:Hid ((l.takeWhile p).length=l.length):=row_len p l l.length hi HA.out (fun h=>absurd h (by omega))
   go_wp2
   go_ret
   rw [HL.out]
   exact ⟨rfl,rfl⟩
def wordsL:List (List UInt8):=[[102,110],[114,101,99,111,114,100],[108,101,116],[105,102],[101,108,115,101],[119,104,105,108,101],[114,101,116,117,114,110],[110,101,119],[116,114,117,101],[102,97,108,115,101]]
def signsL:List (List UInt8):=[[40],[41],[123],[125],[91],[93],[44],[58],[59],[46],[61],[61,61],[33,61],[60],[60,61],[62],[62,61],[43],[45],[42],[47],[37],[33],[38,38],[124,124]]
structure Tabs (w:World):Prop where
 words:∀j (h:j<wordsL.length),w.cell? ⟨4,j,none⟩=some (.string (strB wordsL[j]))
 signs:∀j (h:j<signsL.length),w.cell? ⟨3,j,none⟩=some (.string (strB signsL[j]))
 escs:∀j (h:j<6),w.cell? ⟨5,j,none⟩=some (.int .u8 ([92,92,34,34,10,110][j]:Nat))
 range:∃te pe,w.cell? ⟨7,0,none⟩=some (.iface te pe)
def isWord (l:List UInt8):Bool:=wordsL.contains l
theorem idx_words (w:World) (i:Nat) (h:i<10):(Instr.index 229 (.agg #[.string (strB wordsL[0]),.string (strB wordsL[1]),.string (strB wordsL[2]),.string (strB wordsL[3]),.string (strB wordsL[4]),.string (strB wordsL[5]),.string (strB wordsL[6]),.string (strB wordsL[7]),.string (strB wordsL[8]),.string (strB wordsL[9])]) (.int .i64 (i:Int))).run Tryz.prog w=.ok (.string (strB (wordsL[i]'h))) w:=by
 have hc:i=0∨i=1∨i=2∨i=3∨i=4∨i=5∨i=6∨i=7∨i=8∨i=9:=by omega
 rcases hc with rfl | rfl | rfl | rfl | rfl | rfl | rfl | rfl | rfl | rfl
 all_goals rfl
theorem idx_signs (w:World) (i:Nat) (h:i<25):(Instr.index 219 (.agg #[.string (strB signsL[0]),.string (strB signsL[1]),.string (strB signsL[2]),.string (strB signsL[3]),.string (strB signsL[4]),.string (strB signsL[5]),.string (strB signsL[6]),.string (strB signsL[7]),.string (strB signsL[8]),.string (strB signsL[9]),.string (strB signsL[10]),.string (strB signsL[11]),.string (strB signsL[12]),.string (strB signsL[13]),.string (strB signsL[14]),.string (strB signsL[15]),.string (strB signsL[16]),.string (strB signsL[17]),.string (strB signsL[18]),.string (strB signsL[19]),.string (strB signsL[20]),.string (strB signsL[21]),.string (strB signsL[22]),.string (strB signsL[23]),.string (strB signsL[24])]) (.int .i64 (i:Int))).run Tryz.prog w=.ok (.string (strB (signsL[i]'h))) w:=by
 have hc:i=0∨i=1∨i=2∨i=3∨i=4∨i=5∨i=6∨i=7∨i=8∨i=9∨i=10∨i=11∨i=12∨i=13∨i=14∨i=15∨i=16∨i=17∨i=18∨i=19∨i=20∨i=21∨i=22∨i=23∨i=24:=by omega
 rcases hc with rfl | rfl | rfl | rfl | rfl | rfl | rfl | rfl | rfl | rfl | rfl | rfl | rfl | rfl | rfl | rfl | rfl | rfl | rfl | rfl | rfl | rfl | rfl | rfl | rfl
 all_goals rfl
theorem beqL {a b:List UInt8}:(a==b)=decide (a=b):=by by_cases h:a=b <;> simp [h]
theorem word_in {l:List UInt8} {i:Nat} (h:i<wordsL.length) (he:wordsL[i]=l):isWord l=true:=by
 unfold isWord;rw [List.contains_iff_mem];rw [←he];exact List.getElem_mem h
theorem word_not {l:List UInt8} (h:∀j (h:j<wordsL.length),wordsL[j]≠l):isWord l=false:=by
 unfold isWord
 rw [Bool.eq_false_iff]
 intro hc
 rw [List.contains_iff_mem] at hc
 obtain ⟨j,hj,he⟩:=List.getElem_of_mem hc
 exact h j hj he
set_option maxHeartbeats 1000000 in
theorem word_any (l:List UInt8) (w:World) (ht:Tabs w) :
  Calls Tryz.prog 188 #[.string (strB l)] w fun e w'=>e=.returned (.bool (isWord l))∧w=w':=by
 have h0:=ht.words 0 (by decide)
 have h1:=ht.words 1 (by decide)
 have h2:=ht.words 2 (by decide)
 have h3:=ht.words 3 (by decide)
 have h4:=ht.words 4 (by decide)
 have h5:=ht.words 5 (by decide)
 have h6:=ht.words 6 (by decide)
 have h7:=ht.words 7 (by decide)
 have h8:=ht.words 8 (by decide)
 have h9:=ht.words 9 (by decide)
 clear ht
 go_enter Tryz.func188,Tryz.ntmps188
 go_wp2
 clear h0 h1 h2 h3 h4 h5 h6 h7 h8 h9
 go_loop [6] (fun v=>∃i:Nat,i≤10∧v=.int .i64 i∧∀j (h:j<wordsL.length),j<i→wordsL[j]≠l) (fun v=>10-(intOf v).toNat)
 case atStart=>exact ⟨0,Nat.zero_le _,rfl,fun j h hj=>by omega⟩
 case round =>
  obtain ⟨i,hi,rfl,hall⟩:=hrel
  have HA:Hid (∀j (h:j<wordsL.length),j<i→wordsL[j]≠l):=hall
  clear hall
  by_cases hlt:i<10
  ·have hidx:=fun wx=>idx_words wx i hlt
   obtain ⟨x,hx⟩:∃x,x=wordsL[i]'hlt:=⟨_,rfl⟩
   rw [←hx] at hidx
   have HX:Hid (x=wordsL[i]'hlt):=hx
   clear hx
   by_cases he:x=l
   ·subst he
    have HW:Hid (isWord x=true):=word_in (i:=i) hlt HX.out.symm
    go_wp2
    go_ret
    rw [HW.out]
    exact ⟨rfl,rfl⟩
   ·have HE:Hid (x≠l):=he
    have hb:(x==l)=false:=by rw [beqL];exact decide_eq_false he
    clear he
    go_wp2
    refine ⟨⟨i+1,by omega,by go_num,fun j h hj=>?_⟩,by simp [intOf];omega⟩
    by_cases hji:j<i
    ·exact HA.out j h hji
    ·obtain rfl:j=i:=by omega
     intro he;exact HE.out (HX.out.trans he)
  ·obtain rfl:i=10:=by omega
   have HW:Hid (isWord l=false):=word_not (fun j h=>HA.out j h h)
   go_wp2
   go_ret
   rw [HW.out]
   exact ⟨rfl,rfl⟩
def rowN (p:Nat→Bool) (l:List UInt8):Nat:=(l.takeWhile fun c=>p c.toNat).length
theorem rowN_le (p:Nat→Bool) (l:List UInt8):rowN p l≤l.length:=by
 unfold rowN
 exact (List.takeWhile_sublist _).length_le
def remB (l:List UInt8):Bool:=Lib.hasPrefix l [47,47]
theorem remB_form {l:List UInt8} (h:remB l=true):∃t,l=47::47::t:=by
 unfold remB Lib.hasPrefix at h
 match l,h with
 | [],h=>simp at h
 | [a],h=>simp at h
 | a::b::t,h=>simp at h;exact ⟨t,by rw [←h.1,←h.2]⟩
theorem remB_row {l:List UInt8} (h:remB l=true):2≤rowN noEndN l:=by
 obtain ⟨t,rfl⟩:=remB_form h
 unfold rowN
 rw [List.takeWhile_cons_of_pos (by decide),List.takeWhile_cons_of_pos (by decide)]
 simp
def gapN (l:List UInt8):Nat :=
 if _h:remB (l.drop (rowN blankN l))=true then
  rowN blankN l+(rowN noEndN (l.drop (rowN blankN l))+gapN ((l.drop (rowN blankN l)).drop (rowN noEndN (l.drop (rowN blankN l)))))
 else rowN blankN l
termination_by l.length
decreasing_by
 have:=remB_row ‹_›
 have h3:=rowN_le noEndN (l.drop (rowN blankN l))
 simp only [List.length_drop] at *
 omega
def remN (r:List UInt8):Nat:=if remB r=true then rowN noEndN r+gapN (r.drop (rowN noEndN r)) else 0
theorem gapN_eq (l:List UInt8):gapN l=rowN blankN l+remN (l.drop (rowN blankN l)):=by
 rw [gapN]
 unfold remN
 by_cases h:remB (l.drop (rowN blankN l))=true
 ·rw [dif_pos h,if_pos h]
 ·rw [dif_neg h,if_neg h];rfl
theorem gapN_le:∀(n:Nat) (l:List UInt8),l.length≤n→gapN l≤l.length
 | n,l,hn=>by
  rw [gapN]
  have h1:=rowN_le blankN l
  by_cases h:remB (l.drop (rowN blankN l))=true
  ·rw [dif_pos h]
   have h2:=remB_row h
   have h3:=rowN_le noEndN (l.drop (rowN blankN l))
   rw [List.length_drop] at h3
   have h4:=gapN_le (n-1) ((l.drop (rowN blankN l)).drop (rowN noEndN (l.drop (rowN blankN l)))) (by simp only [List.length_drop];omega)
   simp only [List.length_drop] at h4
   omega
  ·rw [dif_neg h];exact h1
termination_by _ l=>l.length
decreasing_by
 have:=remB_row ‹_›
 have h3:=rowN_le noEndN (l.drop (rowN blankN l))
 simp only [List.length_drop] at *
 omega
set_option maxHeartbeats 2000000 in
theorem gap_any (l:List UInt8) (w:World) (hl:l.length≤9223372036854775000) :
  Calls Tryz.prog 136 #[.string (strB l)] w fun e w'=>e=.returned (.int .i64 (gapN l))∧w=w':=by
 obtain ⟨G,hG⟩:∃G,G=gapN l:=⟨_,rfl⟩
 have hGl:G≤l.length:=by rw [hG];exact gapN_le _ l (Nat.le_refl _)
 have hk0:=rowN_le blankN l
 have HS:Hid (G=rowN blankN l+remN (l.drop (rowN blankN l))):=show G=_ by rw [hG];exact gapN_eq l
 have HSL:Hid (∀a,a≤l.length→∀wx,(Instr.slice 9 (.string (strB l)) (some (.int .i64 (a:Int))) none none).run Tryz.prog wx=.ok (.string (strB (l.drop a))) wx):=fun a h wx=>str_from wx l a h
 rw [←hG]
 clear hG
 go_enter Tryz.func136,Tryz.ntmps136
 go_wp2_with fail
 have c0:=row_blank l w hl
 rw [show (l.takeWhile fun c=>blankN c.toNat).length=rowN blankN l from rfl] at c0
 refine c0.mono ?_
 clear c0
 rintro e w1 ⟨rfl,rfl⟩
 go_wp2_with fail
 go_loop [3] (fun v=>∃a:Nat,a≤l.length∧v=.int .i64 a∧G=a+remN (l.drop a)) (fun v=>l.length-(intOf v).toNat)
 case atStart=>exact ⟨_,hk0,rfl,HS.out⟩
 case round =>
  obtain ⟨a,ha,rfl,hga⟩:=hrel
  have HGA:Hid (G=a+remN (l.drop a)):=hga
  have hs1:=HSL.out a ha
  clear hga
  have cp:=Tryz.strings_HasPrefix (strB (l.drop a)) ⟨#[47,47]⟩ w
  rw [show Lib.hasPrefix (strB (l.drop a)).data.toList (⟨#[47,47]⟩:ByteArray).data.toList=remB (l.drop a) from rfl] at cp
  go_wp2_with fail
  refine cp.mono ?_
  clear cp
  rintro e w1 ⟨rfl,rfl⟩
  cases hr:remB (l.drop a) with
  | false =>
   have hg2:G=a:=by rw [HGA.out];unfold remN;rw [hr];rfl
   subst hg2
   go_wp2
   go_ret
   exact ⟨rfl,rfl⟩
  | true =>
   have h2:=remB_row hr
   have h3:=rowN_le noEndN (l.drop a)
   rw [List.length_drop] at h3
   obtain ⟨m,hm⟩:∃m,m=rowN noEndN (l.drop a):=⟨_,rfl⟩
   rw [←hm] at h2 h3
   have c1:=row_noEnd (l.drop a) w1 (by rw [List.length_drop];omega)
   rw [show ((l.drop a).takeWhile fun c=>noEndN c.toNat).length=rowN noEndN (l.drop a) from rfl,←hm] at c1
   have hs2:=HSL.out (a+m) (by omega)
   rw [Int.natCast_add] at hs2
   obtain ⟨b,hb⟩:∃b,b=rowN blankN (l.drop (a+m)):=⟨_,rfl⟩
   have h4:=rowN_le blankN (l.drop (a+m))
   rw [←hb,List.length_drop] at h4
   have c2:=row_blank (l.drop (a+m)) w1 (by rw [List.length_drop];omega)
   rw [show ((l.drop (a+m)).takeWhile fun c=>blankN c.toNat).length=rowN blankN (l.drop (a+m)) from rfl,←hb] at c2
   have HN:Hid (G=a+m+b+remN (l.drop (a+m+b))):=show G=a+m+b+remN (l.drop (a+m+b)) by
    rw [HGA.out]
    have e1:remN (l.drop a)=m+gapN ((l.drop a).drop m):=by unfold remN;rw [if_pos hr,←hm]
    rw [e1,List.drop_drop,gapN_eq,←hb,List.drop_drop]
    omega
   clear hm hb
   go_wp2_with fail
   refine c1.mono ?_
   clear c1
   rintro e w2 ⟨rfl,rfl⟩
   go_wp2_with fail
   refine c2.mono ?_
   clear c2
   rintro e w2 ⟨rfl,rfl⟩
   go_wp2
   refine ⟨⟨a+m+b,by omega,by go_num,HN.out⟩,by simp [intOf];omega⟩
end Go.Proofs.YtghhamgealkodaaGreatDoor

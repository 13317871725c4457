import Derived.Test.YtpejpbbdgblbeaaGreatDoorMC0
import Derived.Lib.Strings
import Derived.Laws.DeepStrings4
import Derived.Test.YtpejpbbdgblbeaaGreatDoorShelf
namespace Go.Proofs.YtpejpbbdgblbeaaGreatDoor
open Go.RowKit
set_option maxHeartbeats 16000000
set_option maxRecDepth 100000
abbrev za (l:List UInt8):ByteArray:=⟨l.toArray⟩
theorem Zs (l:List UInt8):(za l).size=l.length:=rfl
theorem vt (l:List UInt8) (a b:Nat):(za l).extract a b=za ((l.drop a).take (b-a)):=by
 have e:=Lib.extract_data (za l) a b;have e2:(za l).data.toList=l:=rfl;rw [e2] at e;show _=(⟨_⟩:ByteArray)
 rw [←e]
theorem XW (w:World) (l:List UInt8) (a:Nat) (h:a≤l.length) :
  (Instr.slice 9 (.string (za l)) (some (.int .i64 (a:Int))) none none).run Tryz.prog w=.ok (.string (za (l.drop a))) w:=by
 rw [run_slice_string_from_if (P:=Tryz.prog) (w:=w) 9 (za l) .i64 _ Tryz.underlying9,if_pos ⟨by omega,by rw [Zs];omega⟩]
 rw [Int.toNat_natCast,vt,Zs,List.take_of_length_le (by rw [List.length_drop];omega)]
theorem zaf (w:World) (l:List UInt8) (b:Nat) (h:b≤l.length) :
  (Instr.slice 9 (.string (za l)) none (some (.int .i64 (b:Int))) none).run Tryz.prog w=.ok (.string (za (l.take b))) w:=by
 rw [run_slice_string_to_if (P:=Tryz.prog) (w:=w) 9 (za l) .i64 _ Tryz.underlying9,if_pos ⟨by omega,by rw [Zs];omega⟩]
 rw [Int.toNat_natCast,vt,List.drop_zero,Nat.sub_zero]
theorem vu (w:World) (l:List UInt8) (a n:Nat) (h:a+n≤l.length) :
  (Instr.slice 9 (.string (za l)) (some (.int .i64 (a:Int))) (some (.int .i64 ((a:Int)+(n:Int)))) none).run Tryz.prog w=.ok (.string (za ((l.drop a).take n))) w:=by
 rw [run_slice_string_if (P:=Tryz.prog) (w:=w) 9 (za l) .i64 .i64 _ _ Tryz.underlying9,if_pos ⟨by omega,by rw [Zs];omega⟩,if_pos ⟨by omega,by omega⟩]
 have e1:((a:Int)+(n:Int)).toNat=a+n:=by omega
 rw [e1,Int.toNat_natCast,vt,show a+n-a=n by omega]
def Zv (n:Nat):Bool:=n==95||(decide (97≤n)&&decide (n≤122))||(decide (65≤n)&&decide (n≤90))
def Zn (n:Nat):Bool:=decide (48≤n)&&decide (n≤57)
def Zj (n:Nat):Bool:=n==32||n==9||n==10
def ZK (n:Nat):Bool:=n != 10
theorem zaU {a b:Bool} (h:a=b):Ending.returned (.bool a)=.returned (.bool b):=by rw [h]
theorem Xe (n:Nat) (hn:n<256) (w:World) :
  Calls Tryz.prog 155 #[.int .u8 n] w fun e w'=>e=.returned (.bool (Zv n))∧w=w':=by
 go_enter Tryz.func155,Tryz.ntmps155
 go_wp2
 all_goals go_ret
 all_goals refine ⟨zaU ?_,rfl⟩
 all_goals (rw [Bool.eq_iff_iff];simp [Zv];try omega)
theorem vP (n:Nat) (hn:n<256) (w:World) :
  Calls Tryz.prog 157 #[.int .u8 n] w fun e w'=>e=.returned (.bool (Zn n))∧w=w':=by
 go_enter Tryz.func157,Tryz.ntmps157
 go_wp2
 all_goals go_ret
 all_goals refine ⟨zaU ?_,rfl⟩
 all_goals (rw [Bool.eq_iff_iff];simp [Zn];try omega)
theorem zaV (n:Nat) (hn:n<256) (w:World) :
  Calls Tryz.prog 150 #[.int .u8 n] w fun e w'=>e=.returned (.bool (Zj n))∧w=w':=by
 go_enter Tryz.func150,Tryz.ntmps150
 go_wp2
 all_goals go_ret
 all_goals refine ⟨zaU ?_,rfl⟩
 all_goals (rw [Bool.eq_iff_iff];simp [Zj];try omega)
theorem zfd (n:Nat) (_:n<256) (w:World) :
  Calls Tryz.prog 151 #[.int .u8 n] w fun e w'=>e=.returned (.bool (ZK n))∧w=w':=by
 go_enter Tryz.func151,Tryz.ntmps151
 go_wp2
 all_goals go_ret
 all_goals refine ⟨zaU ?_,rfl⟩
 all_goals (rw [Bool.eq_iff_iff];simp [ZK];try omega)
def Ym (n:Nat):Bool:=Zv n||Zn n
theorem zdV (n:Nat) (hn:n<256) (w:World) :
  Calls Tryz.prog 182 #[.int .u8 n] w fun e w'=>e=.returned (.bool (Ym n))∧w=w':=by
 cases h1:Zv n with
 | true =>
  have c1:=Xe n hn w;rw [h1] at c1
  go_enter Tryz.func182,Tryz.ntmps182
  go_wp2_with fail
  refine c1.mono ?_;rintro e w1 ⟨rfl,rfl⟩;go_wp2
  go_ret
  exact ⟨zaU (by simp [Ym,h1]),rfl⟩
 | false =>
  have c1:=Xe n hn w;rw [h1] at c1
  go_enter Tryz.func182,Tryz.ntmps182
  go_wp2_with fail
  refine c1.mono ?_;rintro e w1 ⟨rfl,rfl⟩;go_wp2_with fail
  refine (vP n hn w).mono ?_;rintro e w1 ⟨rfl,rfl⟩;go_wp2
  go_ret
  exact ⟨zaU (by simp [Ym,h1]),rfl⟩
theorem xH (p:UInt8→Bool):∀(l:List UInt8) (k:Nat),k≤l.length→(∀j (h:j<l.length),j<k→p l[j]=true)→(∀h:k<l.length,p l[k]=false)→(l.takeWhile p).length=k
 | [],k,hk,_,_=>by simp at hk;simp [hk]
 | x::l,0,_,_,h2=>by
  have:=h2 (by simp)
  simp at this
  simp [this]
 | x::l,k+1,hk,h1,h2=>by
  have h0:p x=true:=h1 0 (by simp) (by omega)
  have:=xH p l k (by simpa using hk) (fun j h hj=>h1 (j+1) (by simpa using h) (by omega)) (fun h=>h2 (by simpa using h))
  simp [h0,this]
theorem Qz (l:List UInt8) (w:World) (hl:l.length≤9223372036854775000) :
  Calls Tryz.prog 149 #[.string (za l),.func (.func 150) #[] #[]] w fun e w'=>e=.returned (.int .i64 (l.takeWhile fun c=>Zj c.toNat).length)∧w=w':=by
 obtain ⟨p,hpe⟩:∃p:UInt8→Bool,p=fun c=>Zj c.toNat:=⟨_,rfl⟩
 have HK:Hid (∀(c:UInt8) (wx:World),Calls Tryz.prog 150 #[.int .u8 (c.toNat:Int)] wx fun e w'=>e=.returned (.bool (p c))∧wx=w'):=fun c wx=>by rw [hpe];exact zaV c.toNat (UInt8.toNat_lt c) wx
 rw [←hpe];clear hpe;have hsz:(za l).size=l.length:=rfl
 go_enter Tryz.func149,Tryz.ntmps149
 go_wp2
 go_loop [5] (fun v=>∃i:Nat,i≤l.length∧v=.int .i64 i∧∀j (h:j<l.length),j<i→p l[j]=true) (fun v=>l.length-(intOf v).toNat)
 case atStart=>exact ⟨0,Nat.zero_le _,rfl,fun j h hj=>by omega⟩
 case round =>
  obtain ⟨i,hi,rfl,hall⟩:=hrel;have HA:Hid (∀j (h:j<l.length),j<i→p l[j]=true):=hall;clear hall
  by_cases hlt:i<l.length
  ·have hidx:∀wx,(Instr.index 9 (.string (za l)) (.int .i64 (i:Int))).run Tryz.prog wx=.ok (.int .u8 ((l[i]).toNat:Int)) wx:=fun wx=>by
    rw [run_index_string (P:=Tryz.prog) (w:=wx) 9 (za l) .i64 _ Tryz.underlying9,dif_pos ⟨by omega,by rw [Zs];omega⟩]
    simp only [Int.toNat_natCast]
    rfl
   go_wp2_with fail
   refine (HK.out l[i] w).mono ?_;rintro e w1 ⟨rfl,rfl⟩;cases hp:p l[i] with
   | true =>
    go_wp2
    refine ⟨⟨i+1,by omega,by go_num,fun j h hj=>?_⟩,by simp [intOf];omega⟩
    by_cases hji:j<i
    ·exact HA.out j h hji
    ·obtain rfl:j=i:=by omega
     exact hp
   | false =>
    have HL:Hid ((l.takeWhile p).length=i):=xH p l i hi HA.out (fun _=>hp)
    go_wp2
    go_ret
    rw [HL.out];exact ⟨rfl,rfl⟩
  ·obtain rfl:i=l.length:=by omega
   have HL:Hid ((l.takeWhile p).length=l.length):=xH p l l.length hi HA.out (fun h=>absurd h (by omega))
   go_wp2
   go_ret
   rw [HL.out];exact ⟨rfl,rfl⟩
theorem zdW (l:List UInt8) (w:World) (hl:l.length≤9223372036854775000) :
  Calls Tryz.prog 149 #[.string (za l),.func (.func 157) #[] #[]] w fun e w'=>e=.returned (.int .i64 (l.takeWhile fun c=>Zn c.toNat).length)∧w=w':=by
 obtain ⟨p,hpe⟩:∃p:UInt8→Bool,p=fun c=>Zn c.toNat:=⟨_,rfl⟩
 have HK:Hid (∀(c:UInt8) (wx:World),Calls Tryz.prog 157 #[.int .u8 (c.toNat:Int)] wx fun e w'=>e=.returned (.bool (p c))∧wx=w'):=fun c wx=>by rw [hpe];exact vP c.toNat (UInt8.toNat_lt c) wx
 rw [←hpe];clear hpe;have hsz:(za l).size=l.length:=rfl
 go_enter Tryz.func149,Tryz.ntmps149
 go_wp2
 go_loop [5] (fun v=>∃i:Nat,i≤l.length∧v=.int .i64 i∧∀j (h:j<l.length),j<i→p l[j]=true) (fun v=>l.length-(intOf v).toNat)
 case atStart=>exact ⟨0,Nat.zero_le _,rfl,fun j h hj=>by omega⟩
 case round =>
  obtain ⟨i,hi,rfl,hall⟩:=hrel;have HA:Hid (∀j (h:j<l.length),j<i→p l[j]=true):=hall;clear hall
  by_cases hlt:i<l.length
  ·have hidx:∀wx,(Instr.index 9 (.string (za l)) (.int .i64 (i:Int))).run Tryz.prog wx=.ok (.int .u8 ((l[i]).toNat:Int)) wx:=fun wx=>by
    rw [run_index_string (P:=Tryz.prog) (w:=wx) 9 (za l) .i64 _ Tryz.underlying9,dif_pos ⟨by omega,by rw [Zs];omega⟩]
    simp only [Int.toNat_natCast]
    rfl
   go_wp2_with fail
   refine (HK.out l[i] w).mono ?_;rintro e w1 ⟨rfl,rfl⟩;cases hp:p l[i] with
   | true =>
    go_wp2
    refine ⟨⟨i+1,by omega,by go_num,fun j h hj=>?_⟩,by simp [intOf];omega⟩
    by_cases hji:j<i
    ·exact HA.out j h hji
    ·obtain rfl:j=i:=by omega
     exact hp
   | false =>
    have HL:Hid ((l.takeWhile p).length=i):=xH p l i hi HA.out (fun _=>hp)
    go_wp2
    go_ret
    rw [HL.out];exact ⟨rfl,rfl⟩
  ·obtain rfl:i=l.length:=by omega
   have HL:Hid ((l.takeWhile p).length=l.length):=xH p l l.length hi HA.out (fun h=>absurd h (by omega))
   go_wp2
   go_ret
   rw [HL.out];exact ⟨rfl,rfl⟩
theorem zdX (l:List UInt8) (w:World) (hl:l.length≤9223372036854775000) :
  Calls Tryz.prog 149 #[.string (za l),.func (.func 151) #[] #[]] w fun e w'=>e=.returned (.int .i64 (l.takeWhile fun c=>ZK c.toNat).length)∧w=w':=by
 obtain ⟨p,hpe⟩:∃p:UInt8→Bool,p=fun c=>ZK c.toNat:=⟨_,rfl⟩
 have HK:Hid (∀(c:UInt8) (wx:World),Calls Tryz.prog 151 #[.int .u8 (c.toNat:Int)] wx fun e w'=>e=.returned (.bool (p c))∧wx=w'):=fun c wx=>by rw [hpe];exact zfd c.toNat (UInt8.toNat_lt c) wx
 rw [←hpe];clear hpe;have hsz:(za l).size=l.length:=rfl
 go_enter Tryz.func149,Tryz.ntmps149
 go_wp2
 go_loop [5] (fun v=>∃i:Nat,i≤l.length∧v=.int .i64 i∧∀j (h:j<l.length),j<i→p l[j]=true) (fun v=>l.length-(intOf v).toNat)
 case atStart=>exact ⟨0,Nat.zero_le _,rfl,fun j h hj=>by omega⟩
 case round =>
  obtain ⟨i,hi,rfl,hall⟩:=hrel;have HA:Hid (∀j (h:j<l.length),j<i→p l[j]=true):=hall;clear hall
  by_cases hlt:i<l.length
  ·have hidx:∀wx,(Instr.index 9 (.string (za l)) (.int .i64 (i:Int))).run Tryz.prog wx=.ok (.int .u8 ((l[i]).toNat:Int)) wx:=fun wx=>by
    rw [run_index_string (P:=Tryz.prog) (w:=wx) 9 (za l) .i64 _ Tryz.underlying9,dif_pos ⟨by omega,by rw [Zs];omega⟩]
    simp only [Int.toNat_natCast]
    rfl
   go_wp2_with fail
   refine (HK.out l[i] w).mono ?_;rintro e w1 ⟨rfl,rfl⟩;cases hp:p l[i] with
   | true =>
    go_wp2
    refine ⟨⟨i+1,by omega,by go_num,fun j h hj=>?_⟩,by simp [intOf];omega⟩
    by_cases hji:j<i
    ·exact HA.out j h hji
    ·obtain rfl:j=i:=by omega
     exact hp
   | false =>
    have HL:Hid ((l.takeWhile p).length=i):=xH p l i hi HA.out (fun _=>hp)
    go_wp2
    go_ret
    rw [HL.out];exact ⟨rfl,rfl⟩
  ·obtain rfl:i=l.length:=by omega
   have HL:Hid ((l.takeWhile p).length=l.length):=xH p l l.length hi HA.out (fun h=>absurd h (by omega))
   go_wp2
   go_ret
   rw [HL.out];exact ⟨rfl,rfl⟩
theorem zfe (l:List UInt8) (w:World) (hl:l.length≤9223372036854775000) :
  Calls Tryz.prog 149 #[.string (za l),.func (.func 182) #[] #[]] w fun e w'=>e=.returned (.int .i64 (l.takeWhile fun c=>Ym c.toNat).length)∧w=w':=by
 obtain ⟨p,hpe⟩:∃p:UInt8→Bool,p=fun c=>Ym c.toNat:=⟨_,rfl⟩
 have HK:Hid (∀(c:UInt8) (wx:World),Calls Tryz.prog 182 #[.int .u8 (c.toNat:Int)] wx fun e w'=>e=.returned (.bool (p c))∧wx=w'):=fun c wx=>by rw [hpe];exact zdV c.toNat (UInt8.toNat_lt c) wx
 rw [←hpe];clear hpe;have hsz:(za l).size=l.length:=rfl
 go_enter Tryz.func149,Tryz.ntmps149
 go_wp2
 go_loop [5] (fun v=>∃i:Nat,i≤l.length∧v=.int .i64 i∧∀j (h:j<l.length),j<i→p l[j]=true) (fun v=>l.length-(intOf v).toNat)
 case atStart=>exact ⟨0,Nat.zero_le _,rfl,fun j h hj=>by omega⟩
 case round =>
  obtain ⟨i,hi,rfl,hall⟩:=hrel;have HA:Hid (∀j (h:j<l.length),j<i→p l[j]=true):=hall;clear hall
  by_cases hlt:i<l.length
  ·have hidx:∀wx,(Instr.index 9 (.string (za l)) (.int .i64 (i:Int))).run Tryz.prog wx=.ok (.int .u8 ((l[i]).toNat:Int)) wx:=fun wx=>by
    rw [run_index_string (P:=Tryz.prog) (w:=wx) 9 (za l) .i64 _ Tryz.underlying9,dif_pos ⟨by omega,by rw [Zs];omega⟩]
    simp only [Int.toNat_natCast]
    rfl
   go_wp2_with fail
   refine (HK.out l[i] w).mono ?_;rintro e w1 ⟨rfl,rfl⟩;cases hp:p l[i] with
   | true =>
    go_wp2
    refine ⟨⟨i+1,by omega,by go_num,fun j h hj=>?_⟩,by simp [intOf];omega⟩
    by_cases hji:j<i
    ·exact HA.out j h hji
    ·obtain rfl:j=i:=by omega
     exact hp
   | false =>
    have HL:Hid ((l.takeWhile p).length=i):=xH p l i hi HA.out (fun _=>hp)
    go_wp2
    go_ret
    rw [HL.out];exact ⟨rfl,rfl⟩
  ·obtain rfl:i=l.length:=by omega
   have HL:Hid ((l.takeWhile p).length=l.length):=xH p l l.length hi HA.out (fun h=>absurd h (by omega))
   go_wp2
   go_ret
   rw [HL.out];exact ⟨rfl,rfl⟩
def wordsL:List (List UInt8):=[[102,110],[114,101,99,111,114,100],[108,101,116],[105,102],[101,108,115,101],[119,104,105,108,101],[114,101,116,117,114,110],[110,101,119],[116,114,117,101],[102,97,108,115,101]]
def signsL:List (List UInt8):=[[40],[41],[123],[125],[91],[93],[44],[58],[59],[46],[61],[61,61],[33,61],[60],[60,61],[62],[62,61],[43],[45],[42],[47],[37],[33],[38,38],[124,124]]
structure Ys (w:World):Prop where
 words:∀j (h:j<wordsL.length),w.cell? ⟨4,j,none⟩=some (.string (za wordsL[j]))
 signs:∀j (h:j<signsL.length),w.cell? ⟨3,j,none⟩=some (.string (za signsL[j]))
 escs:∀j (h:j<6),w.cell? ⟨5,j,none⟩=some (.int .u8 ([92,92,34,34,10,110][j]:Nat))
 range:∃te pe,w.cell? ⟨7,0,none⟩=some (.iface te pe)
def yZ (l:List UInt8):Bool:=wordsL.contains l
theorem zdY (w:World) (i:Nat) (h:i<10):(Instr.index 226 (.agg #[.string (za wordsL[0]),.string (za wordsL[1]),.string (za wordsL[2]),.string (za wordsL[3]),.string (za wordsL[4]),.string (za wordsL[5]),.string (za wordsL[6]),.string (za wordsL[7]),.string (za wordsL[8]),.string (za wordsL[9])]) (.int .i64 (i:Int))).run Tryz.prog w=.ok (.string (za (wordsL[i]'h))) w:=by
 have hc:i=0∨i=1∨i=2∨i=3∨i=4∨i=5∨i=6∨i=7∨i=8∨i=9:=by omega
 rcases hc with rfl | rfl | rfl | rfl | rfl | rfl | rfl | rfl | rfl | rfl
 all_goals rfl
theorem zdZ (w:World) (i:Nat) (h:i<25):(Instr.index 216 (.agg #[.string (za signsL[0]),.string (za signsL[1]),.string (za signsL[2]),.string (za signsL[3]),.string (za signsL[4]),.string (za signsL[5]),.string (za signsL[6]),.string (za signsL[7]),.string (za signsL[8]),.string (za signsL[9]),.string (za signsL[10]),.string (za signsL[11]),.string (za signsL[12]),.string (za signsL[13]),.string (za signsL[14]),.string (za signsL[15]),.string (za signsL[16]),.string (za signsL[17]),.string (za signsL[18]),.string (za signsL[19]),.string (za signsL[20]),.string (za signsL[21]),.string (za signsL[22]),.string (za signsL[23]),.string (za signsL[24])]) (.int .i64 (i:Int))).run Tryz.prog w=.ok (.string (za (signsL[i]'h))) w:=by
 have hc:i=0∨i=1∨i=2∨i=3∨i=4∨i=5∨i=6∨i=7∨i=8∨i=9∨i=10∨i=11∨i=12∨i=13∨i=14∨i=15∨i=16∨i=17∨i=18∨i=19∨i=20∨i=21∨i=22∨i=23∨i=24:=by omega
 rcases hc with rfl | rfl | rfl | rfl | rfl | rfl | rfl | rfl | rfl | rfl | rfl | rfl | rfl | rfl | rfl | rfl | rfl | rfl | rfl | rfl | rfl | rfl | rfl | rfl | rfl
 all_goals rfl
theorem zgq {a b:List UInt8}:(a==b)=decide (a=b):=by by_cases h:a=b <;> simp [h]
theorem zgr {l:List UInt8} {i:Nat} (h:i<wordsL.length) (he:wordsL[i]=l):yZ l=true:=by
 unfold yZ;rw [List.contains_iff_mem];rw [←he];exact List.getElem_mem h
theorem zff {l:List UInt8} (h:∀j (h:j<wordsL.length),wordsL[j]≠l):yZ l=false:=by
 unfold yZ
 rw [Bool.eq_false_iff];intro hc;rw [List.contains_iff_mem] at hc;obtain ⟨j,hj,he⟩:=List.getElem_of_mem hc;exact h j hj he
theorem zfg (l:List UInt8) (w:World) (ht:Ys w) :
  Calls Tryz.prog 183 #[.string (za l)] w fun e w'=>e=.returned (.bool (yZ l))∧w=w':=by
 have h0:=ht.words 0 (by decide)
 have h1:=ht.words 1 (by decide)
 have h2:=ht.words 2 (by decide)
 have h3:=ht.words 3 (by decide)
 have h4:=ht.words 4 (by decide)
 have h5:=ht.words 5 (by decide)
 have h6:=ht.words 6 (by decide)
 have h7:=ht.words 7 (by decide)
 have h8:=ht.words 8 (by decide)
 have h9:=ht.words 9 (by decide)
 clear ht
 go_enter Tryz.func183,Tryz.ntmps183
 go_wp2
 clear h0 h1 h2 h3 h4 h5 h6 h7 h8 h9
 go_loop [6] (fun v=>∃i:Nat,i≤10∧v=.int .i64 i∧∀j (h:j<wordsL.length),j<i→wordsL[j]≠l) (fun v=>10-(intOf v).toNat)
 case atStart=>exact ⟨0,Nat.zero_le _,rfl,fun j h hj=>by omega⟩
 case round =>
  obtain ⟨i,hi,rfl,hall⟩:=hrel;have HA:Hid (∀j (h:j<wordsL.length),j<i→wordsL[j]≠l):=hall;clear hall
  by_cases hlt:i<10
  ·have hidx:=fun wx=>zdY wx i hlt
   obtain ⟨x,hx⟩:∃x,x=wordsL[i]'hlt:=⟨_,rfl⟩;rw [←hx] at hidx;have HX:Hid (x=wordsL[i]'hlt):=hx;clear hx
   by_cases he:x=l
   ·subst he
    have HW:Hid (yZ x=true):=zgr (i:=i) hlt HX.out.symm;go_wp2
    go_ret
    rw [HW.out];exact ⟨rfl,rfl⟩
   ·have HE:Hid (x≠l):=he
    have hb:(x==l)=false:=by rw [zgq];exact decide_eq_false he
    clear he;go_wp2
    refine ⟨⟨i+1,by omega,by go_num,fun j h hj=>?_⟩,by simp [intOf];omega⟩
    by_cases hji:j<i
    ·exact HA.out j h hji
    ·obtain rfl:j=i:=by omega
     intro he;exact HE.out (HX.out.trans he)
  ·obtain rfl:i=10:=by omega
   have HW:Hid (yZ l=false):=zff (fun j h=>HA.out j h h)
   go_wp2
   go_ret
   rw [HW.out];exact ⟨rfl,rfl⟩
def yv (p:Nat→Bool) (l:List UInt8):Nat:=(l.takeWhile fun c=>p c.toNat).length
theorem Xw (p:Nat→Bool) (l:List UInt8):yv p l≤l.length:=by
 unfold yv
 exact (List.takeWhile_sublist _).length_le
def XO (l:List UInt8):Bool:=Lib.hasPrefix l [47,47]
theorem QA {l:List UInt8} (h:XO l=true):∃t,l=47::47::t:=by
 unfold XO Lib.hasPrefix at h
 match l,h with
 | [],h=>simp at h
 | [a],h=>simp at h
 | a::b::t,h=>simp at h;exact ⟨t,by rw [←h.1,←h.2]⟩
theorem Xf {l:List UInt8} (h:XO l=true):2≤yv ZK l:=by
 obtain ⟨t,rfl⟩:=QA h
 unfold yv
 rw [List.takeWhile_cons_of_pos (by decide),List.takeWhile_cons_of_pos (by decide)]
 simp
def Yn (l:List UInt8):Nat :=
 if _h:XO (l.drop (yv Zj l))=true then
  yv Zj l+(yv ZK (l.drop (yv Zj l))+Yn ((l.drop (yv Zj l)).drop (yv ZK (l.drop (yv Zj l)))))
 else yv Zj l
termination_by l.length
decreasing_by
 have:=Xf ‹_›
 have h3:=Xw ZK (l.drop (yv Zj l));simp only [List.length_drop] at *;omega
def UA (r:List UInt8):Nat:=if XO r=true then yv ZK r+Yn (r.drop (yv ZK r)) else 0
theorem vv (l:List UInt8):Yn l=yv Zj l+UA (l.drop (yv Zj l)):=by
 rw [Yn]
 unfold UA
 by_cases h:XO (l.drop (yv Zj l))=true
 ·rw [dif_pos h,if_pos h]
 ·rw [dif_neg h,if_neg h];rfl
theorem zag:∀(n:Nat) (l:List UInt8),l.length≤n→Yn l≤l.length
 | n,l,hn=>by
  rw [Yn];have h1:=Xw Zj l
  by_cases h:XO (l.drop (yv Zj l))=true
  ·rw [dif_pos h]
   have h2:=Xf h;have h3:=Xw ZK (l.drop (yv Zj l));rw [List.length_drop] at h3;have h4:=zag (n-1) ((l.drop (yv Zj l)).drop (yv ZK (l.drop (yv Zj l)))) (by simp only [List.length_drop];omega)
   simp only [List.length_drop] at h4;omega
  ·rw [dif_neg h];exact h1
termination_by _ l=>l.length
decreasing_by
 have:=Xf ‹_›
 have h3:=Xw ZK (l.drop (yv Zj l));simp only [List.length_drop] at *;omega
theorem zgs (l:List UInt8) (w:World) (hl:l.length≤9223372036854775000) :
  Calls Tryz.prog 127 #[.string (za l)] w fun e w'=>e=.returned (.int .i64 (Yn l))∧w=w':=by
 obtain ⟨G,hG⟩:∃G,G=Yn l:=⟨_,rfl⟩;have hGl:G≤l.length:=by rw [hG];exact zag _ l (Nat.le_refl _)
 have hk0:=Xw Zj l;have HS:Hid (G=yv Zj l+UA (l.drop (yv Zj l))):=show G=_ by rw [hG];exact vv l
 have HSL:Hid (∀a,a≤l.length→∀wx,(Instr.slice 9 (.string (za l)) (some (.int .i64 (a:Int))) none none).run Tryz.prog wx=.ok (.string (za (l.drop a))) wx):=fun a h wx=>XW wx l a h
 rw [←hG];clear hG
 go_enter Tryz.func127,Tryz.ntmps127
 go_wp2_with fail
 have c0:=Qz l w hl;rw [show (l.takeWhile fun c=>Zj c.toNat).length=yv Zj l from rfl] at c0
 refine c0.mono ?_;clear c0;rintro e w1 ⟨rfl,rfl⟩;go_wp2_with fail
 go_loop [3] (fun v=>∃a:Nat,a≤l.length∧v=.int .i64 a∧G=a+UA (l.drop a)) (fun v=>l.length-(intOf v).toNat)
 case atStart=>exact ⟨_,hk0,rfl,HS.out⟩
 case round =>
  obtain ⟨a,ha,rfl,hga⟩:=hrel;have HGA:Hid (G=a+UA (l.drop a)):=hga;have hs1:=HSL.out a ha;clear hga;have cp:=Tryz.strings_HasPrefix (za (l.drop a)) ⟨#[47,47]⟩ w;rw [show Lib.hasPrefix (za (l.drop a)).data.toList (⟨#[47,47]⟩:ByteArray).data.toList=XO (l.drop a) from rfl] at cp
  go_wp2_with fail
  refine cp.mono ?_;clear cp;rintro e w1 ⟨rfl,rfl⟩;cases hr:XO (l.drop a) with
  | false =>
   have hg2:G=a:=by rw [HGA.out];unfold UA;rw [hr];rfl
   subst hg2;go_wp2
   go_ret
   exact ⟨rfl,rfl⟩
  | true =>
   have h2:=Xf hr;have h3:=Xw ZK (l.drop a);rw [List.length_drop] at h3;obtain ⟨m,hm⟩:∃m,m=yv ZK (l.drop a):=⟨_,rfl⟩;rw [←hm] at h2 h3;have c1:=zdX (l.drop a) w1 (by rw [List.length_drop];omega)
   rw [show ((l.drop a).takeWhile fun c=>ZK c.toNat).length=yv ZK (l.drop a) from rfl,←hm] at c1
   have hs2:=HSL.out (a+m) (by omega)
   rw [Int.natCast_add] at hs2;obtain ⟨b,hb⟩:∃b,b=yv Zj (l.drop (a+m)):=⟨_,rfl⟩;have h4:=Xw Zj (l.drop (a+m));rw [←hb,List.length_drop] at h4;have c2:=Qz (l.drop (a+m)) w1 (by rw [List.length_drop];omega)
   rw [show ((l.drop (a+m)).takeWhile fun c=>Zj c.toNat).length=yv Zj (l.drop (a+m)) from rfl,←hb] at c2
   have HN:Hid (G=a+m+b+UA (l.drop (a+m+b))):=show G=a+m+b+UA (l.drop (a+m+b)) by
    rw [HGA.out];have e1:UA (l.drop a)=m+Yn ((l.drop a).drop m):=by unfold UA;rw [if_pos hr,←hm]
    rw [e1,List.drop_drop,vv,←hb,List.drop_drop];omega
   clear hm hb;go_wp2_with fail
   refine c1.mono ?_;clear c1;rintro e w2 ⟨rfl,rfl⟩;go_wp2_with fail
   refine c2.mono ?_;clear c2;rintro e w2 ⟨rfl,rfl⟩;go_wp2
   refine ⟨⟨a+m+b,by omega,by go_num,HN.out⟩,by simp [intOf];omega⟩
end Go.Proofs.YtpejpbbdgblbeaaGreatDoor

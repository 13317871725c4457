import Derived.Test.YtmbofhpmockmbaaGreatDoorMC1
import Derived.Test.YtmbofhpmockmbaaGreatDoorShelf
namespace Go.Proofs.YtmbofhpmockmbaaGreatDoor
open Go.RowKit
set_option maxHeartbeats 16000000
set_option maxRecDepth 100000
def zK (n:Nat):Bool:=n==95||(decide (97≤n)&&decide (n≤122))||(decide (65≤n)&&decide (n≤90))
def zC (n:Nat):Bool:=decide (48≤n)&&decide (n≤57)
def zz (n:Nat):Bool:=n==32||n==9||n==10
def zQ (n:Nat):Bool:=n != 10
theorem VT {a b:Bool} (h:a=b):Ending.returned (.bool a)=.returned (.bool b):=by rw [h]
theorem yL (n:Nat) (hn:n<256) (w:World) :
  Calls Tryz.prog 159 #[.int .u8 n] w fun e w'=>e=.returned (.bool (zK n))∧w=w':=by
 go_enter Tryz.func159,Tryz.ntmps159
 go_wp2
 all_goals go_ret
 all_goals refine ⟨VT ?_,rfl⟩
 all_goals (rw [Bool.eq_iff_iff];simp [zK];try omega)
theorem YM (n:Nat) (hn:n<256) (w:World) :
  Calls Tryz.prog 161 #[.int .u8 n] w fun e w'=>e=.returned (.bool (zC n))∧w=w':=by
 go_enter Tryz.func161,Tryz.ntmps161
 go_wp2
 all_goals go_ret
 all_goals refine ⟨VT ?_,rfl⟩
 all_goals (rw [Bool.eq_iff_iff];simp [zC];try omega)
theorem VU (n:Nat) (hn:n<256) (w:World) :
  Calls Tryz.prog 153 #[.int .u8 n] w fun e w'=>e=.returned (.bool (zz n))∧w=w':=by
 go_enter Tryz.func153,Tryz.ntmps153
 go_wp2
 all_goals go_ret
 all_goals refine ⟨VT ?_,rfl⟩
 all_goals (rw [Bool.eq_iff_iff];simp [zz];try omega)
theorem q6 (n:Nat) (_:n<256) (w:World) :
  Calls Tryz.prog 155 #[.int .u8 n] w fun e w'=>e=.returned (.bool (zQ n))∧w=w':=by
 go_enter Tryz.func155,Tryz.ntmps155
 go_wp2
 all_goals go_ret
 all_goals refine ⟨VT ?_,rfl⟩
 all_goals (rw [Bool.eq_iff_iff];simp [zQ];try omega)
def ZG (n:Nat):Bool:=zK n||zC n
theorem U3 (n:Nat) (hn:n<256) (w:World) :
  Calls Tryz.prog 173 #[.int .u8 n] w fun e w'=>e=.returned (.bool (ZG n))∧w=w':=by
 cases h1:zK n with
 | true =>
  have h:=yL n hn w;rw [h1] at h
  go_enter Tryz.func173,Tryz.ntmps173
  go_wp2_with fail
  refine h.mono ?_;rintro e o ⟨rfl,rfl⟩;go_wp2
  go_ret
  exact ⟨VT (by simp [ZG,h1]),rfl⟩
 | false =>
  have h:=yL n hn w;rw [h1] at h
  go_enter Tryz.func173,Tryz.ntmps173
  go_wp2_with fail
  refine h.mono ?_;rintro e o ⟨rfl,rfl⟩;go_wp2_with fail
  refine (YM n hn w).mono ?_;rintro e o ⟨rfl,rfl⟩;go_wp2
  go_ret
  exact ⟨VT (by simp [ZG,h1]),rfl⟩
theorem yo (p:UInt8→Bool):∀(l:List UInt8) (k:Nat),k≤l.length→(∀j (h:j<l.length),j<k→p l[j]=true)→(∀h:k<l.length,p l[k]=false)→(l.takeWhile p).length=k
 | [],k,hk,_,_=>by simp at hk;simp [hk]
 | x::l,0,_,_,h2=>by
  have:=h2 (by simp)
  simp at this
  simp [this]
 | x::l,k+1,hk,h1,h2=>by
  have e:p x=true:=h1 0 (by simp) (by omega)
  have:=yo p l k (by simpa using hk) (fun j h hj=>h1 (j+1) (by simpa using h) (by omega)) (fun h=>h2 (by simpa using h))
  simp [e,this]
theorem vL (l:List UInt8) (w:World) (hl:l.length≤9223372036854775000) :
  Calls Tryz.prog 152 #[.string (za l),.func (.func 153) #[] #[]] w fun e w'=>e=.returned (.int .i64 (l.takeWhile fun c=>zz c.toNat).length)∧w=w':=by
 obtain ⟨p,y⟩:∃p:UInt8→Bool,p=fun c=>zz c.toNat:=⟨_,rfl⟩
 have H:Hid (∀(c:UInt8) (wx:World),Calls Tryz.prog 153 #[.int .u8 (c.toNat:Int)] wx fun e w'=>e=.returned (.bool (p c))∧wx=w'):=fun c wx=>by rw [y];exact VU c.toNat (UInt8.toNat_lt c) wx
 rw [←y];clear y;have G:(za l).size=l.length:=rfl
 go_enter Tryz.func152,Tryz.ntmps152
 go_wp2
 go_loop [5] (fun v=>∃i:Nat,i≤l.length∧v=.int .i64 i∧∀j (h:j<l.length),j<i→p l[j]=true) (fun v=>l.length-(intOf v).toNat)
 case atStart=>exact ⟨0,Nat.zero_le _,rfl,fun j h hj=>by omega⟩
 case round =>
  obtain ⟨i,D,rfl,o⟩:=hrel;have A:Hid (∀j (h:j<l.length),j<i→p l[j]=true):=o;clear o
  by_cases hlt:i<l.length
  ·have E:∀wx,(Instr.index 9 (.string (za l)) (.int .i64 (i:Int))).run Tryz.prog wx=.ok (.int .u8 ((l[i]).toNat:Int)) wx:=fun wx=>by
    rw [run_index_string (P:=Tryz.prog) (w:=wx) 9 (za l) .i64 _ Tryz.underlying9,dif_pos ⟨by omega,by rw [Zz];omega⟩]
    simp only [Int.toNat_natCast]
    rfl
   go_wp2_with fail
   refine (H.out l[i] w).mono ?_;rintro e I ⟨rfl,rfl⟩;cases hp:p l[i] with
   | true =>
    go_wp2
    refine ⟨⟨i+1,by omega,by go_num,fun j h hj=>?_⟩,by simp [intOf];omega⟩
    by_cases hji:j<i
    ·exact A.out j h hji
    ·obtain rfl:j=i:=by omega
     exact hp
   | false =>
    have z:Hid ((l.takeWhile p).length=i):=yo p l i D A.out (fun _=>hp)
    go_wp2
    go_ret
    rw [z.out];exact ⟨rfl,rfl⟩
  ·obtain rfl:i=l.length:=by omega
   have z:Hid ((l.takeWhile p).length=l.length):=yo p l l.length D A.out (fun h=>absurd h (by omega))
   go_wp2
   go_ret
   rw [z.out];exact ⟨rfl,rfl⟩
theorem U4 (l:List UInt8) (w:World) (hl:l.length≤9223372036854775000) :
  Calls Tryz.prog 152 #[.string (za l),.func (.func 161) #[] #[]] w fun e w'=>e=.returned (.int .i64 (l.takeWhile fun c=>zC c.toNat).length)∧w=w':=by
 obtain ⟨p,y⟩:∃p:UInt8→Bool,p=fun c=>zC c.toNat:=⟨_,rfl⟩
 have H:Hid (∀(c:UInt8) (wx:World),Calls Tryz.prog 161 #[.int .u8 (c.toNat:Int)] wx fun e w'=>e=.returned (.bool (p c))∧wx=w'):=fun c wx=>by rw [y];exact YM c.toNat (UInt8.toNat_lt c) wx
 rw [←y];clear y;have G:(za l).size=l.length:=rfl
 go_enter Tryz.func152,Tryz.ntmps152
 go_wp2
 go_loop [5] (fun v=>∃i:Nat,i≤l.length∧v=.int .i64 i∧∀j (h:j<l.length),j<i→p l[j]=true) (fun v=>l.length-(intOf v).toNat)
 case atStart=>exact ⟨0,Nat.zero_le _,rfl,fun j h hj=>by omega⟩
 case round =>
  obtain ⟨i,D,rfl,o⟩:=hrel;have A:Hid (∀j (h:j<l.length),j<i→p l[j]=true):=o;clear o
  by_cases hlt:i<l.length
  ·have E:∀wx,(Instr.index 9 (.string (za l)) (.int .i64 (i:Int))).run Tryz.prog wx=.ok (.int .u8 ((l[i]).toNat:Int)) wx:=fun wx=>by
    rw [run_index_string (P:=Tryz.prog) (w:=wx) 9 (za l) .i64 _ Tryz.underlying9,dif_pos ⟨by omega,by rw [Zz];omega⟩]
    simp only [Int.toNat_natCast]
    rfl
   go_wp2_with fail
   refine (H.out l[i] w).mono ?_;rintro e I ⟨rfl,rfl⟩;cases hp:p l[i] with
   | true =>
    go_wp2
    refine ⟨⟨i+1,by omega,by go_num,fun j h hj=>?_⟩,by simp [intOf];omega⟩
    by_cases hji:j<i
    ·exact A.out j h hji
    ·obtain rfl:j=i:=by omega
     exact hp
   | false =>
    have z:Hid ((l.takeWhile p).length=i):=yo p l i D A.out (fun _=>hp)
    go_wp2
    go_ret
    rw [z.out];exact ⟨rfl,rfl⟩
  ·obtain rfl:i=l.length:=by omega
   have z:Hid ((l.takeWhile p).length=l.length):=yo p l l.length D A.out (fun h=>absurd h (by omega))
   go_wp2
   go_ret
   rw [z.out];exact ⟨rfl,rfl⟩
theorem U5 (l:List UInt8) (w:World) (hl:l.length≤9223372036854775000) :
  Calls Tryz.prog 152 #[.string (za l),.func (.func 155) #[] #[]] w fun e w'=>e=.returned (.int .i64 (l.takeWhile fun c=>zQ c.toNat).length)∧w=w':=by
 obtain ⟨p,y⟩:∃p:UInt8→Bool,p=fun c=>zQ c.toNat:=⟨_,rfl⟩
 have H:Hid (∀(c:UInt8) (wx:World),Calls Tryz.prog 155 #[.int .u8 (c.toNat:Int)] wx fun e w'=>e=.returned (.bool (p c))∧wx=w'):=fun c wx=>by rw [y];exact q6 c.toNat (UInt8.toNat_lt c) wx
 rw [←y];clear y;have G:(za l).size=l.length:=rfl
 go_enter Tryz.func152,Tryz.ntmps152
 go_wp2
 go_loop [5] (fun v=>∃i:Nat,i≤l.length∧v=.int .i64 i∧∀j (h:j<l.length),j<i→p l[j]=true) (fun v=>l.length-(intOf v).toNat)
 case atStart=>exact ⟨0,Nat.zero_le _,rfl,fun j h hj=>by omega⟩
 case round =>
  obtain ⟨i,D,rfl,o⟩:=hrel;have A:Hid (∀j (h:j<l.length),j<i→p l[j]=true):=o;clear o
  by_cases hlt:i<l.length
  ·have E:∀wx,(Instr.index 9 (.string (za l)) (.int .i64 (i:Int))).run Tryz.prog wx=.ok (.int .u8 ((l[i]).toNat:Int)) wx:=fun wx=>by
    rw [run_index_string (P:=Tryz.prog) (w:=wx) 9 (za l) .i64 _ Tryz.underlying9,dif_pos ⟨by omega,by rw [Zz];omega⟩]
    simp only [Int.toNat_natCast]
    rfl
   go_wp2_with fail
   refine (H.out l[i] w).mono ?_;rintro e I ⟨rfl,rfl⟩;cases hp:p l[i] with
   | true =>
    go_wp2
    refine ⟨⟨i+1,by omega,by go_num,fun j h hj=>?_⟩,by simp [intOf];omega⟩
    by_cases hji:j<i
    ·exact A.out j h hji
    ·obtain rfl:j=i:=by omega
     exact hp
   | false =>
    have z:Hid ((l.takeWhile p).length=i):=yo p l i D A.out (fun _=>hp)
    go_wp2
    go_ret
    rw [z.out];exact ⟨rfl,rfl⟩
  ·obtain rfl:i=l.length:=by omega
   have z:Hid ((l.takeWhile p).length=l.length):=yo p l l.length D A.out (fun h=>absurd h (by omega))
   go_wp2
   go_ret
   rw [z.out];exact ⟨rfl,rfl⟩
theorem q7 (l:List UInt8) (w:World) (hl:l.length≤9223372036854775000) :
  Calls Tryz.prog 152 #[.string (za l),.func (.func 173) #[] #[]] w fun e w'=>e=.returned (.int .i64 (l.takeWhile fun c=>ZG c.toNat).length)∧w=w':=by
 obtain ⟨p,y⟩:∃p:UInt8→Bool,p=fun c=>ZG c.toNat:=⟨_,rfl⟩
 have H:Hid (∀(c:UInt8) (wx:World),Calls Tryz.prog 173 #[.int .u8 (c.toNat:Int)] wx fun e w'=>e=.returned (.bool (p c))∧wx=w'):=fun c wx=>by rw [y];exact U3 c.toNat (UInt8.toNat_lt c) wx
 rw [←y];clear y;have G:(za l).size=l.length:=rfl
 go_enter Tryz.func152,Tryz.ntmps152
 go_wp2
 go_loop [5] (fun v=>∃i:Nat,i≤l.length∧v=.int .i64 i∧∀j (h:j<l.length),j<i→p l[j]=true) (fun v=>l.length-(intOf v).toNat)
 case atStart=>exact ⟨0,Nat.zero_le _,rfl,fun j h hj=>by omega⟩
 case round =>
  obtain ⟨i,D,rfl,o⟩:=hrel;have A:Hid (∀j (h:j<l.length),j<i→p l[j]=true):=o;clear o
  by_cases hlt:i<l.length
  ·have E:∀wx,(Instr.index 9 (.string (za l)) (.int .i64 (i:Int))).run Tryz.prog wx=.ok (.int .u8 ((l[i]).toNat:Int)) wx:=fun wx=>by
    rw [run_index_string (P:=Tryz.prog) (w:=wx) 9 (za l) .i64 _ Tryz.underlying9,dif_pos ⟨by omega,by rw [Zz];omega⟩]
    simp only [Int.toNat_natCast]
    rfl
   go_wp2_with fail
   refine (H.out l[i] w).mono ?_;rintro e I ⟨rfl,rfl⟩;cases hp:p l[i] with
   | true =>
    go_wp2
    refine ⟨⟨i+1,by omega,by go_num,fun j h hj=>?_⟩,by simp [intOf];omega⟩
    by_cases hji:j<i
    ·exact A.out j h hji
    ·obtain rfl:j=i:=by omega
     exact hp
   | false =>
    have z:Hid ((l.takeWhile p).length=i):=yo p l i D A.out (fun _=>hp)
    go_wp2
    go_ret
    rw [z.out];exact ⟨rfl,rfl⟩
  ·obtain rfl:i=l.length:=by omega
   have z:Hid ((l.takeWhile p).length=l.length):=yo p l l.length D A.out (fun h=>absurd h (by omega))
   go_wp2
   go_ret
   rw [z.out];exact ⟨rfl,rfl⟩
def wordsL:List (List UInt8):=[[102,110],[114,101,99,111,114,100],[108,101,116],[105,102],[101,108,115,101],[119,104,105,108,101],[114,101,116,117,114,110],[110,101,119],[116,114,117,101],[102,97,108,115,101]]
def signsL:List (List UInt8):=[[40],[41],[123],[125],[91],[93],[44],[58],[59],[46],[61],[61,61],[33,61],[60],[60,61],[62],[62,61],[43],[45],[42],[47],[37],[33],[38,38],[124,124]]
structure Z1 (w:World):Prop where
 words:∀j (h:j<wordsL.length),w.cell? ⟨9,j,none⟩=some (.string (za wordsL[j]))
 signs:∀j (h:j<signsL.length),w.cell? ⟨8,j,none⟩=some (.string (za signsL[j]))
 escs:∀j (h:j<6),w.cell? ⟨10,j,none⟩=some (.int .u8 ([92,92,34,34,10,110][j]:Nat))
 range:∃te pe,w.cell? ⟨2,0,none⟩=some (.iface te pe)
def Zv (l:List UInt8):Bool:=wordsL.contains l
theorem U6 (w:World) (i:Nat) (h:i<10):(Instr.index 227 (.agg #[.string (za wordsL[0]),.string (za wordsL[1]),.string (za wordsL[2]),.string (za wordsL[3]),.string (za wordsL[4]),.string (za wordsL[5]),.string (za wordsL[6]),.string (za wordsL[7]),.string (za wordsL[8]),.string (za wordsL[9])]) (.int .i64 (i:Int))).run Tryz.prog w=.ok (.string (za (wordsL[i]'h))) w:=by
 have e:i=0∨i=1∨i=2∨i=3∨i=4∨i=5∨i=6∨i=7∨i=8∨i=9:=by omega
 rcases e with rfl | rfl | rfl | rfl | rfl | rfl | rfl | rfl | rfl | rfl
 all_goals rfl
theorem U7 (w:World) (i:Nat) (h:i<25):(Instr.index 225 (.agg #[.string (za signsL[0]),.string (za signsL[1]),.string (za signsL[2]),.string (za signsL[3]),.string (za signsL[4]),.string (za signsL[5]),.string (za signsL[6]),.string (za signsL[7]),.string (za signsL[8]),.string (za signsL[9]),.string (za signsL[10]),.string (za signsL[11]),.string (za signsL[12]),.string (za signsL[13]),.string (za signsL[14]),.string (za signsL[15]),.string (za signsL[16]),.string (za signsL[17]),.string (za signsL[18]),.string (za signsL[19]),.string (za signsL[20]),.string (za signsL[21]),.string (za signsL[22]),.string (za signsL[23]),.string (za signsL[24])]) (.int .i64 (i:Int))).run Tryz.prog w=.ok (.string (za (signsL[i]'h))) w:=by
 have e:i=0∨i=1∨i=2∨i=3∨i=4∨i=5∨i=6∨i=7∨i=8∨i=9∨i=10∨i=11∨i=12∨i=13∨i=14∨i=15∨i=16∨i=17∨i=18∨i=19∨i=20∨i=21∨i=22∨i=23∨i=24:=by omega
 rcases e with rfl | rfl | rfl | rfl | rfl | rfl | rfl | rfl | rfl | rfl | rfl | rfl | rfl | rfl | rfl | rfl | rfl | rfl | rfl | rfl | rfl | rfl | rfl | rfl | rfl
 all_goals rfl
theorem zao {a b:List UInt8}:(a==b)=decide (a=b):=by by_cases h:a=b <;> simp [h]
theorem QU {l:List UInt8} {i:Nat} (h:i<wordsL.length) (he:wordsL[i]=l):Zv l=true:=by
 unfold Zv;rw [List.contains_iff_mem];rw [←he];exact List.getElem_mem h
theorem q8 {l:List UInt8} (h:∀j (h:j<wordsL.length),wordsL[j]≠l):Zv l=false:=by
 unfold Zv
 rw [Bool.eq_false_iff];intro e;rw [List.contains_iff_mem] at e;obtain ⟨j,y,o⟩:=List.getElem_of_mem e;exact h j y o
theorem q9 (l:List UInt8) (w:World) (ht:Z1 w) :
  Calls Tryz.prog 174 #[.string (za l)] w fun e w'=>e=.returned (.bool (Zv l))∧w=w':=by
 have J:=ht.words 0 (by decide)
 have T:=ht.words 1 (by decide)
 have I:=ht.words 2 (by decide)
 have K:=ht.words 3 (by decide)
 have N:=ht.words 4 (by decide)
 have M:=ht.words 5 (by decide)
 have H:=ht.words 6 (by decide)
 have L:=ht.words 7 (by decide)
 have R:=ht.words 8 (by decide)
 have O:=ht.words 9 (by decide)
 clear ht
 go_enter Tryz.func174,Tryz.ntmps174
 go_wp2
 clear J T I K N M H L R O
 go_loop [6] (fun v=>∃i:Nat,i≤10∧v=.int .i64 i∧∀j (h:j<wordsL.length),j<i→wordsL[j]≠l) (fun v=>10-(intOf v).toNat)
 case atStart=>exact ⟨0,Nat.zero_le _,rfl,fun j h hj=>by omega⟩
 case round =>
  obtain ⟨i,U,rfl,o⟩:=hrel;have G:Hid (∀j (h:j<wordsL.length),j<i→wordsL[j]≠l):=o;clear o
  by_cases hlt:i<10
  ·have z:=fun wx=>U6 wx i hlt
   obtain ⟨x,A⟩:∃x,x=wordsL[i]'hlt:=⟨_,rfl⟩;rw [←A] at z;have E:Hid (x=wordsL[i]'hlt):=A;clear A
   by_cases y:x=l
   ·subst y
    have D:Hid (Zv x=true):=QU (i:=i) hlt E.out.symm;go_wp2
    go_ret
    rw [D.out];exact ⟨rfl,rfl⟩
   ·have Q:Hid (x≠l):=y
    have V:(x==l)=false:=by rw [zao];exact decide_eq_false y
    clear y;go_wp2
    refine ⟨⟨i+1,by omega,by go_num,fun j h hj=>?_⟩,by simp [intOf];omega⟩
    by_cases hji:j<i
    ·exact G.out j h hji
    ·obtain rfl:j=i:=by omega
     intro y;exact Q.out (E.out.trans y)
  ·obtain rfl:i=10:=by omega
   have D:Hid (Zv l=false):=q8 (fun j h=>G.out j h h)
   go_wp2
   go_ret
   rw [D.out];exact ⟨rfl,rfl⟩
def Zb (p:Nat→Bool) (l:List UInt8):Nat:=(l.takeWhile fun c=>p c.toNat).length
theorem yV (p:Nat→Bool) (l:List UInt8):Zb p l≤l.length:=by
 unfold Zb
 exact (List.takeWhile_sublist _).length_le
def y8 (l:List UInt8):Bool:=Lib.hasPrefix l [47,47]
theorem vM {l:List UInt8} (h:y8 l=true):∃t,l=47::47::t:=by
 unfold y8 Lib.hasPrefix at h
 match l,h with
 | [],h=>simp at h
 | [a],h=>simp at h
 | a::b::t,h=>simp at h;exact ⟨t,by rw [←h.1,←h.2]⟩
theorem yM {l:List UInt8} (h:y8 l=true):2≤Zb zQ l:=by
 obtain ⟨t,rfl⟩:=vM h
 unfold Zb
 rw [List.takeWhile_cons_of_pos (by decide),List.takeWhile_cons_of_pos (by decide)]
 simp
def ZH (l:List UInt8):Nat :=
 if _h:y8 (l.drop (Zb zz l))=true then
  Zb zz l+(Zb zQ (l.drop (Zb zz l))+ZH ((l.drop (Zb zz l)).drop (Zb zQ (l.drop (Zb zz l)))))
 else Zb zz l
termination_by l.length
decreasing_by
 have:=yM ‹_›
 have h3:=yV zQ (l.drop (Zb zz l));simp only [List.length_drop] at *;omega
def Xg (r:List UInt8):Nat:=if y8 r=true then Zb zQ r+ZH (r.drop (Zb zQ r)) else 0
theorem Yu (l:List UInt8):ZH l=Zb zz l+Xg (l.drop (Zb zz l)):=by
 rw [ZH]
 unfold Xg
 by_cases h:y8 (l.drop (Zb zz l))=true
 ·rw [dif_pos h,if_pos h]
 ·rw [dif_neg h,if_neg h];rfl
theorem Vi:∀(n:Nat) (l:List UInt8),l.length≤n→ZH l≤l.length
 | n,l,hn=>by
  rw [ZH];have y:=yV zz l
  by_cases h:y8 (l.drop (Zb zz l))=true
  ·rw [dif_pos h]
   have z:=yM h;have e:=yV zQ (l.drop (Zb zz l));rw [List.length_drop] at e;have o:=Vi (n-1) ((l.drop (Zb zz l)).drop (Zb zQ (l.drop (Zb zz l)))) (by simp only [List.length_drop];omega)
   simp only [List.length_drop] at o;omega
  ·rw [dif_neg h];exact y
termination_by _ l=>l.length
decreasing_by
 have:=yM ‹_›
 have h3:=yV zQ (l.drop (Zb zz l));simp only [List.length_drop] at *;omega
theorem QV (l:List UInt8) (w:World) (hl:l.length≤9223372036854775000) :
  Calls Tryz.prog 139 #[.string (za l)] w fun e w'=>e=.returned (.int .i64 (ZH l))∧w=w':=by
 obtain ⟨G,D⟩:∃G,G=ZH l:=⟨_,rfl⟩;have V:G≤l.length:=by rw [D];exact Vi _ l (Nat.le_refl _)
 have N:=yV zz l;have W:Hid (G=Zb zz l+Xg (l.drop (Zb zz l))):=show G=_ by rw [D];exact Yu l
 have z:Hid (∀a,a≤l.length→∀wx,(Instr.slice 9 (.string (za l)) (some (.int .i64 (a:Int))) none none).run Tryz.prog wx=.ok (.string (za (l.drop a))) wx):=fun a h wx=>YJ wx l a h
 rw [←D];clear D
 go_enter Tryz.func139,Tryz.ntmps139
 go_wp2_with fail
 have O:=vL l w hl;rw [show (l.takeWhile fun c=>zz c.toNat).length=Zb zz l from rfl] at O
 refine O.mono ?_;clear O;rintro e I ⟨rfl,rfl⟩;go_wp2_with fail
 go_loop [3] (fun v=>∃a:Nat,a≤l.length∧v=.int .i64 a∧G=a+Xg (l.drop a)) (fun v=>l.length-(intOf v).toNat)
 case atStart=>exact ⟨_,N,rfl,W.out⟩
 case round =>
  obtain ⟨a,Z,rfl,y⟩:=hrel;have o:Hid (G=a+Xg (l.drop a)):=y;have U:=z.out a Z;clear y;have K:=Tryz.strings_HasPrefix (za (l.drop a)) ⟨#[47,47]⟩ w;rw [show Lib.hasPrefix (za (l.drop a)).data.toList (⟨#[47,47]⟩:ByteArray).data.toList=y8 (l.drop a) from rfl] at K
  go_wp2_with fail
  refine K.mono ?_;clear K;rintro e I ⟨rfl,rfl⟩;cases hr:y8 (l.drop a) with
  | false =>
   have L:G=a:=by rw [o.out];unfold Xg;rw [hr];rfl
   subst L;go_wp2
   go_ret
   exact ⟨rfl,rfl⟩
  | true =>
   have T:=yM hr;have Q:=yV zQ (l.drop a);rw [List.length_drop] at Q;obtain ⟨m,A⟩:∃m,m=Zb zQ (l.drop a):=⟨_,rfl⟩;rw [←A] at T Q;have H:=U5 (l.drop a) I (by rw [List.length_drop];omega)
   rw [show ((l.drop a).takeWhile fun c=>zQ c.toNat).length=Zb zQ (l.drop a) from rfl,←A] at H
   have J:=z.out (a+m) (by omega)
   rw [Int.natCast_add] at J;obtain ⟨b,E⟩:∃b,b=Zb zz (l.drop (a+m)):=⟨_,rfl⟩;have Y:=yV zz (l.drop (a+m));rw [←E,List.length_drop] at Y;have M:=vL (l.drop (a+m)) I (by rw [List.length_drop];omega)
   rw [show ((l.drop (a+m)).takeWhile fun c=>zz c.toNat).length=Zb zz (l.drop (a+m)) from rfl,←E] at M
   have HN:Hid (G=a+m+b+Xg (l.drop (a+m+b))):=show G=a+m+b+Xg (l.drop (a+m+b)) by
    rw [o.out];have R:Xg (l.drop a)=m+ZH ((l.drop a).drop m):=by unfold Xg;rw [if_pos hr,←A]
    rw [R,List.drop_drop,Yu,←E,List.drop_drop];omega
   clear A E;go_wp2_with fail
   refine H.mono ?_;clear H;rintro e X ⟨rfl,rfl⟩;go_wp2_with fail
   refine M.mono ?_;clear M;rintro e X ⟨rfl,rfl⟩;go_wp2
   refine ⟨⟨a+m+b,by omega,by go_num,HN.out⟩,by simp [intOf];omega⟩
end Go.Proofs.YtmbofhpmockmbaaGreatDoor

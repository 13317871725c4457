import Derived.Test.YtmbofhpmockmbaaGreatDoorMC1
import Derived.Test.YtmbofhpmockmbaaGreatDoorShelf
namespace Go.Proofs.YtmbofhpmockmbaaGreatDoor
open Go.RowKit
set_option maxHeartbeats 16000000
set_option maxRecDepth 100000
def zM (n:Nat):Bool:=n==95||(decide (97≤n)&&decide (n≤122))||(decide (65≤n)&&decide (n≤90))
def zE (n:Nat):Bool:=decide (48≤n)&&decide (n≤57)
def zB (n:Nat):Bool:=n==32||n==9||n==10
def zS (n:Nat):Bool:=n != 10
theorem uh {a b:Bool} (h:a=b):Ending.returned (.bool a)=.returned (.bool b):=by rw [h]
theorem yS (n:Nat) (hn:n<256) (w:World) :
  Calls Tryz.prog 159 #[.int .u8 n] w fun e w'=>e=.returned (.bool (zM n))∧w=w':=by
 go_enter Tryz.func159,Tryz.ntmps159
 go_wp2
 all_goals go_ret
 all_goals refine ⟨uh ?_,rfl⟩
 all_goals (rw [Bool.eq_iff_iff];simp [zM];try omega)
theorem YU (n:Nat) (hn:n<256) (w:World) :
  Calls Tryz.prog 161 #[.int .u8 n] w fun e w'=>e=.returned (.bool (zE n))∧w=w':=by
 go_enter Tryz.func161,Tryz.ntmps161
 go_wp2
 all_goals go_ret
 all_goals refine ⟨uh ?_,rfl⟩
 all_goals (rw [Bool.eq_iff_iff];simp [zE];try omega)
theorem ui (n:Nat) (hn:n<256) (w:World) :
  Calls Tryz.prog 153 #[.int .u8 n] w fun e w'=>e=.returned (.bool (zB n))∧w=w':=by
 go_enter Tryz.func153,Tryz.ntmps153
 go_wp2
 all_goals go_ret
 all_goals refine ⟨uh ?_,rfl⟩
 all_goals (rw [Bool.eq_iff_iff];simp [zB];try omega)
theorem Qt (n:Nat) (_:n<256) (w:World) :
  Calls Tryz.prog 155 #[.int .u8 n] w fun e w'=>e=.returned (.bool (zS n))∧w=w':=by
 go_enter Tryz.func155,Tryz.ntmps155
 go_wp2
 all_goals go_ret
 all_goals refine ⟨uh ?_,rfl⟩
 all_goals (rw [Bool.eq_iff_iff];simp [zS];try omega)
def ZK (n:Nat):Bool:=zM n||zE n
theorem qt (n:Nat) (hn:n<256) (w:World) :
  Calls Tryz.prog 173 #[.int .u8 n] w fun e w'=>e=.returned (.bool (ZK n))∧w=w':=by
 cases h1:zM n with
 | true =>
  have h:=yS n hn w;rw [h1] at h
  go_enter Tryz.func173,Tryz.ntmps173
  go_wp2_with fail
  refine h.mono ?_;rintro e o ⟨rfl,rfl⟩;go_wp2
  go_ret
  exact ⟨uh (by simp [ZK,h1]),rfl⟩
 | false =>
  have h:=yS n hn w;rw [h1] at h
  go_enter Tryz.func173,Tryz.ntmps173
  go_wp2_with fail
  refine h.mono ?_;rintro e o ⟨rfl,rfl⟩;go_wp2_with fail
  refine (YU n hn w).mono ?_;rintro e o ⟨rfl,rfl⟩;go_wp2
  go_ret
  exact ⟨uh (by simp [ZK,h1]),rfl⟩
theorem yr (p:UInt8→Bool):∀(l:List UInt8) (k:Nat),k≤l.length→(∀j (h:j<l.length),j<k→p l[j]=true)→(∀h:k<l.length,p l[k]=false)→(l.takeWhile p).length=k
 | [],k,hk,_,_=>by simp at hk;simp [hk]
 | x::l,0,_,_,h2=>by
  have:=h2 (by simp)
  simp at this
  simp [this]
 | x::l,k+1,hk,h1,h2=>by
  have e:p x=true:=h1 0 (by simp) (by omega)
  have:=yr p l k (by simpa using hk) (fun j h hj=>h1 (j+1) (by simpa using h) (by omega)) (fun h=>h2 (by simpa using h))
  simp [e,this]
theorem Vc (l:List UInt8) (w:World) (hl:l.length≤9223372036854775000) :
  Calls Tryz.prog 152 #[.string (za l),.func (.func 153) #[] #[]] w fun e w'=>e=.returned (.int .i64 (l.takeWhile fun c=>zB c.toNat).length)∧w=w':=by
 obtain ⟨p,y⟩:∃p:UInt8→Bool,p=fun c=>zB c.toNat:=⟨_,rfl⟩
 have H:Hid (∀(c:UInt8) (wx:World),Calls Tryz.prog 153 #[.int .u8 (c.toNat:Int)] wx fun e w'=>e=.returned (.bool (p c))∧wx=w'):=fun c wx=>by rw [y];exact ui c.toNat (UInt8.toNat_lt c) wx
 rw [←y];clear y;have G:(za l).size=l.length:=rfl
 go_enter Tryz.func152,Tryz.ntmps152
 go_wp2
 go_loop [5] (fun v=>∃i:Nat,i≤l.length∧v=.int .i64 i∧∀j (h:j<l.length),j<i→p l[j]=true) (fun v=>l.length-(intOf v).toNat)
 case atStart=>exact ⟨0,Nat.zero_le _,rfl,fun j h hj=>by omega⟩
 case round =>
  obtain ⟨i,D,rfl,o⟩:=hrel;have z:Hid (∀j (h:j<l.length),j<i→p l[j]=true):=o;clear o
  by_cases hlt:i<l.length
  ·have E:∀wx,(Instr.index 9 (.string (za l)) (.int .i64 (i:Int))).run Tryz.prog wx=.ok (.int .u8 ((l[i]).toNat:Int)) wx:=fun wx=>by
    rw [run_index_string (P:=Tryz.prog) (w:=wx) 9 (za l) .i64 _ Tryz.underlying9,dif_pos ⟨by omega,by rw [ZE];omega⟩]
    simp only [Int.toNat_natCast]
    rfl
   go_wp2_with fail
   refine (H.out l[i] w).mono ?_;rintro e I ⟨rfl,rfl⟩;cases hp:p l[i] with
   | true =>
    go_wp2
    refine ⟨⟨i+1,by omega,by go_num,fun j h hj=>?_⟩,by simp [intOf];omega⟩
    by_cases hji:j<i
    ·exact z.out j h hji
    ·obtain rfl:j=i:=by omega
     exact hp
   | false =>
    have A:Hid ((l.takeWhile p).length=i):=yr p l i D z.out (fun _=>hp)
    go_wp2
    go_ret
    rw [A.out];exact ⟨rfl,rfl⟩
  ·obtain rfl:i=l.length:=by omega
   have A:Hid ((l.takeWhile p).length=l.length):=yr p l l.length D z.out (fun h=>absurd h (by omega))
   go_wp2
   go_ret
   rw [A.out];exact ⟨rfl,rfl⟩
theorem qu (l:List UInt8) (w:World) (hl:l.length≤9223372036854775000) :
  Calls Tryz.prog 152 #[.string (za l),.func (.func 161) #[] #[]] w fun e w'=>e=.returned (.int .i64 (l.takeWhile fun c=>zE c.toNat).length)∧w=w':=by
 obtain ⟨p,y⟩:∃p:UInt8→Bool,p=fun c=>zE c.toNat:=⟨_,rfl⟩
 have H:Hid (∀(c:UInt8) (wx:World),Calls Tryz.prog 161 #[.int .u8 (c.toNat:Int)] wx fun e w'=>e=.returned (.bool (p c))∧wx=w'):=fun c wx=>by rw [y];exact YU c.toNat (UInt8.toNat_lt c) wx
 rw [←y];clear y;have G:(za l).size=l.length:=rfl
 go_enter Tryz.func152,Tryz.ntmps152
 go_wp2
 go_loop [5] (fun v=>∃i:Nat,i≤l.length∧v=.int .i64 i∧∀j (h:j<l.length),j<i→p l[j]=true) (fun v=>l.length-(intOf v).toNat)
 case atStart=>exact ⟨0,Nat.zero_le _,rfl,fun j h hj=>by omega⟩
 case round =>
  obtain ⟨i,D,rfl,o⟩:=hrel;have z:Hid (∀j (h:j<l.length),j<i→p l[j]=true):=o;clear o
  by_cases hlt:i<l.length
  ·have E:∀wx,(Instr.index 9 (.string (za l)) (.int .i64 (i:Int))).run Tryz.prog wx=.ok (.int .u8 ((l[i]).toNat:Int)) wx:=fun wx=>by
    rw [run_index_string (P:=Tryz.prog) (w:=wx) 9 (za l) .i64 _ Tryz.underlying9,dif_pos ⟨by omega,by rw [ZE];omega⟩]
    simp only [Int.toNat_natCast]
    rfl
   go_wp2_with fail
   refine (H.out l[i] w).mono ?_;rintro e I ⟨rfl,rfl⟩;cases hp:p l[i] with
   | true =>
    go_wp2
    refine ⟨⟨i+1,by omega,by go_num,fun j h hj=>?_⟩,by simp [intOf];omega⟩
    by_cases hji:j<i
    ·exact z.out j h hji
    ·obtain rfl:j=i:=by omega
     exact hp
   | false =>
    have A:Hid ((l.takeWhile p).length=i):=yr p l i D z.out (fun _=>hp)
    go_wp2
    go_ret
    rw [A.out];exact ⟨rfl,rfl⟩
  ·obtain rfl:i=l.length:=by omega
   have A:Hid ((l.takeWhile p).length=l.length):=yr p l l.length D z.out (fun h=>absurd h (by omega))
   go_wp2
   go_ret
   rw [A.out];exact ⟨rfl,rfl⟩
theorem qv (l:List UInt8) (w:World) (hl:l.length≤9223372036854775000) :
  Calls Tryz.prog 152 #[.string (za l),.func (.func 155) #[] #[]] w fun e w'=>e=.returned (.int .i64 (l.takeWhile fun c=>zS c.toNat).length)∧w=w':=by
 obtain ⟨p,y⟩:∃p:UInt8→Bool,p=fun c=>zS c.toNat:=⟨_,rfl⟩
 have H:Hid (∀(c:UInt8) (wx:World),Calls Tryz.prog 155 #[.int .u8 (c.toNat:Int)] wx fun e w'=>e=.returned (.bool (p c))∧wx=w'):=fun c wx=>by rw [y];exact Qt c.toNat (UInt8.toNat_lt c) wx
 rw [←y];clear y;have G:(za l).size=l.length:=rfl
 go_enter Tryz.func152,Tryz.ntmps152
 go_wp2
 go_loop [5] (fun v=>∃i:Nat,i≤l.length∧v=.int .i64 i∧∀j (h:j<l.length),j<i→p l[j]=true) (fun v=>l.length-(intOf v).toNat)
 case atStart=>exact ⟨0,Nat.zero_le _,rfl,fun j h hj=>by omega⟩
 case round =>
  obtain ⟨i,D,rfl,o⟩:=hrel;have z:Hid (∀j (h:j<l.length),j<i→p l[j]=true):=o;clear o
  by_cases hlt:i<l.length
  ·have E:∀wx,(Instr.index 9 (.string (za l)) (.int .i64 (i:Int))).run Tryz.prog wx=.ok (.int .u8 ((l[i]).toNat:Int)) wx:=fun wx=>by
    rw [run_index_string (P:=Tryz.prog) (w:=wx) 9 (za l) .i64 _ Tryz.underlying9,dif_pos ⟨by omega,by rw [ZE];omega⟩]
    simp only [Int.toNat_natCast]
    rfl
   go_wp2_with fail
   refine (H.out l[i] w).mono ?_;rintro e I ⟨rfl,rfl⟩;cases hp:p l[i] with
   | true =>
    go_wp2
    refine ⟨⟨i+1,by omega,by go_num,fun j h hj=>?_⟩,by simp [intOf];omega⟩
    by_cases hji:j<i
    ·exact z.out j h hji
    ·obtain rfl:j=i:=by omega
     exact hp
   | false =>
    have A:Hid ((l.takeWhile p).length=i):=yr p l i D z.out (fun _=>hp)
    go_wp2
    go_ret
    rw [A.out];exact ⟨rfl,rfl⟩
  ·obtain rfl:i=l.length:=by omega
   have A:Hid ((l.takeWhile p).length=l.length):=yr p l l.length D z.out (fun h=>absurd h (by omega))
   go_wp2
   go_ret
   rw [A.out];exact ⟨rfl,rfl⟩
theorem Qu (l:List UInt8) (w:World) (hl:l.length≤9223372036854775000) :
  Calls Tryz.prog 152 #[.string (za l),.func (.func 173) #[] #[]] w fun e w'=>e=.returned (.int .i64 (l.takeWhile fun c=>ZK c.toNat).length)∧w=w':=by
 obtain ⟨p,y⟩:∃p:UInt8→Bool,p=fun c=>ZK c.toNat:=⟨_,rfl⟩
 have H:Hid (∀(c:UInt8) (wx:World),Calls Tryz.prog 173 #[.int .u8 (c.toNat:Int)] wx fun e w'=>e=.returned (.bool (p c))∧wx=w'):=fun c wx=>by rw [y];exact qt c.toNat (UInt8.toNat_lt c) wx
 rw [←y];clear y;have G:(za l).size=l.length:=rfl
 go_enter Tryz.func152,Tryz.ntmps152
 go_wp2
 go_loop [5] (fun v=>∃i:Nat,i≤l.length∧v=.int .i64 i∧∀j (h:j<l.length),j<i→p l[j]=true) (fun v=>l.length-(intOf v).toNat)
 case atStart=>exact ⟨0,Nat.zero_le _,rfl,fun j h hj=>by omega⟩
 case round =>
  obtain ⟨i,D,rfl,o⟩:=hrel;have z:Hid (∀j (h:j<l.length),j<i→p l[j]=true):=o;clear o
  by_cases hlt:i<l.length
  ·have E:∀wx,(Instr.index 9 (.string (za l)) (.int .i64 (i:Int))).run Tryz.prog wx=.ok (.int .u8 ((l[i]).toNat:Int)) wx:=fun wx=>by
    rw [run_index_string (P:=Tryz.prog) (w:=wx) 9 (za l) .i64 _ Tryz.underlying9,dif_pos ⟨by omega,by rw [ZE];omega⟩]
    simp only [Int.toNat_natCast]
    rfl
   go_wp2_with fail
   refine (H.out l[i] w).mono ?_;rintro e I ⟨rfl,rfl⟩;cases hp:p l[i] with
   | true =>
    go_wp2
    refine ⟨⟨i+1,by omega,by go_num,fun j h hj=>?_⟩,by simp [intOf];omega⟩
    by_cases hji:j<i
    ·exact z.out j h hji
    ·obtain rfl:j=i:=by omega
     exact hp
   | false =>
    have A:Hid ((l.takeWhile p).length=i):=yr p l i D z.out (fun _=>hp)
    go_wp2
    go_ret
    rw [A.out];exact ⟨rfl,rfl⟩
  ·obtain rfl:i=l.length:=by omega
   have A:Hid ((l.takeWhile p).length=l.length):=yr p l l.length D z.out (fun h=>absurd h (by omega))
   go_wp2
   go_ret
   rw [A.out];exact ⟨rfl,rfl⟩
def wordsL:List (List UInt8):=[[102,110],[114,101,99,111,114,100],[108,101,116],[105,102],[101,108,115,101],[119,104,105,108,101],[114,101,116,117,114,110],[110,101,119],[116,114,117,101],[102,97,108,115,101]]
def signsL:List (List UInt8):=[[40],[41],[123],[125],[91],[93],[44],[58],[59],[46],[61],[61,61],[33,61],[60],[60,61],[62],[62,61],[43],[45],[42],[47],[37],[33],[38,38],[124,124]]
structure Z4 (w:World):Prop where
 words:∀j (h:j<wordsL.length),w.cell? ⟨9,j,none⟩=some (.string (za wordsL[j]))
 signs:∀j (h:j<signsL.length),w.cell? ⟨8,j,none⟩=some (.string (za signsL[j]))
 escs:∀j (h:j<6),w.cell? ⟨10,j,none⟩=some (.int .u8 ([92,92,34,34,10,110][j]:Nat))
 range:∃te pe,w.cell? ⟨2,0,none⟩=some (.iface te pe)
def ZB (l:List UInt8):Bool:=wordsL.contains l
theorem qw (w:World) (i:Nat) (h:i<10):(Instr.index 227 (.agg #[.string (za wordsL[0]),.string (za wordsL[1]),.string (za wordsL[2]),.string (za wordsL[3]),.string (za wordsL[4]),.string (za wordsL[5]),.string (za wordsL[6]),.string (za wordsL[7]),.string (za wordsL[8]),.string (za wordsL[9])]) (.int .i64 (i:Int))).run Tryz.prog w=.ok (.string (za (wordsL[i]'h))) w:=by
 have e:i=0∨i=1∨i=2∨i=3∨i=4∨i=5∨i=6∨i=7∨i=8∨i=9:=by omega
 rcases e with rfl | rfl | rfl | rfl | rfl | rfl | rfl | rfl | rfl | rfl
 all_goals rfl
theorem qy (w:World) (i:Nat) (h:i<25):(Instr.index 225 (.agg #[.string (za signsL[0]),.string (za signsL[1]),.string (za signsL[2]),.string (za signsL[3]),.string (za signsL[4]),.string (za signsL[5]),.string (za signsL[6]),.string (za signsL[7]),.string (za signsL[8]),.string (za signsL[9]),.string (za signsL[10]),.string (za signsL[11]),.string (za signsL[12]),.string (za signsL[13]),.string (za signsL[14]),.string (za signsL[15]),.string (za signsL[16]),.string (za signsL[17]),.string (za signsL[18]),.string (za signsL[19]),.string (za signsL[20]),.string (za signsL[21]),.string (za signsL[22]),.string (za signsL[23]),.string (za signsL[24])]) (.int .i64 (i:Int))).run Tryz.prog w=.ok (.string (za (signsL[i]'h))) w:=by
 have e:i=0∨i=1∨i=2∨i=3∨i=4∨i=5∨i=6∨i=7∨i=8∨i=9∨i=10∨i=11∨i=12∨i=13∨i=14∨i=15∨i=16∨i=17∨i=18∨i=19∨i=20∨i=21∨i=22∨i=23∨i=24:=by omega
 rcases e with rfl | rfl | rfl | rfl | rfl | rfl | rfl | rfl | rfl | rfl | rfl | rfl | rfl | rfl | rfl | rfl | rfl | rfl | rfl | rfl | rfl | rfl | rfl | rfl | rfl
 all_goals rfl
theorem zaL {a b:List UInt8}:(a==b)=decide (a=b):=by by_cases h:a=b <;> simp [h]
theorem zak {l:List UInt8} {i:Nat} (h:i<wordsL.length) (he:wordsL[i]=l):ZB l=true:=by
 unfold ZB;rw [List.contains_iff_mem];rw [←he];exact List.getElem_mem h
theorem Qv {l:List UInt8} (h:∀j (h:j<wordsL.length),wordsL[j]≠l):ZB l=false:=by
 unfold ZB
 rw [Bool.eq_false_iff];intro e;rw [List.contains_iff_mem] at e;obtain ⟨j,y,o⟩:=List.getElem_of_mem e;exact h j y o
theorem Qw (l:List UInt8) (w:World) (ht:Z4 w) :
  Calls Tryz.prog 174 #[.string (za l)] w fun e w'=>e=.returned (.bool (ZB l))∧w=w':=by
 have M:=ht.words 0 (by decide)
 have T:=ht.words 1 (by decide)
 have Q:=ht.words 2 (by decide)
 have N:=ht.words 3 (by decide)
 have J:=ht.words 4 (by decide)
 have R:=ht.words 5 (by decide)
 have O:=ht.words 6 (by decide)
 have K:=ht.words 7 (by decide)
 have I:=ht.words 8 (by decide)
 have L:=ht.words 9 (by decide)
 clear ht
 go_enter Tryz.func174,Tryz.ntmps174
 go_wp2
 clear M T Q N J R O K I L
 go_loop [6] (fun v=>∃i:Nat,i≤10∧v=.int .i64 i∧∀j (h:j<wordsL.length),j<i→wordsL[j]≠l) (fun v=>10-(intOf v).toNat)
 case atStart=>exact ⟨0,Nat.zero_le _,rfl,fun j h hj=>by omega⟩
 case round =>
  obtain ⟨i,V,rfl,o⟩:=hrel;have E:Hid (∀j (h:j<wordsL.length),j<i→wordsL[j]≠l):=o;clear o
  by_cases hlt:i<10
  ·have z:=fun wx=>qw wx i hlt
   obtain ⟨x,A⟩:∃x,x=wordsL[i]'hlt:=⟨_,rfl⟩;rw [←A] at z;have G:Hid (x=wordsL[i]'hlt):=A;clear A
   by_cases y:x=l
   ·subst y
    have D:Hid (ZB x=true):=zak (i:=i) hlt G.out.symm;go_wp2
    go_ret
    rw [D.out];exact ⟨rfl,rfl⟩
   ·have H:Hid (x≠l):=y
    have U:(x==l)=false:=by rw [zaL];exact decide_eq_false y
    clear y;go_wp2
    refine ⟨⟨i+1,by omega,by go_num,fun j h hj=>?_⟩,by simp [intOf];omega⟩
    by_cases hji:j<i
    ·exact E.out j h hji
    ·obtain rfl:j=i:=by omega
     intro y;exact H.out (G.out.trans y)
  ·obtain rfl:i=10:=by omega
   have D:Hid (ZB l=false):=Qv (fun j h=>E.out j h h)
   go_wp2
   go_ret
   rw [D.out];exact ⟨rfl,rfl⟩
def Ze (p:Nat→Bool) (l:List UInt8):Nat:=(l.takeWhile fun c=>p c.toNat).length
theorem y9 (p:Nat→Bool) (l:List UInt8):Ze p l≤l.length:=by
 unfold Ze
 exact (List.takeWhile_sublist _).length_le
def Yg (l:List UInt8):Bool:=Lib.hasPrefix l [47,47]
theorem Vd {l:List UInt8} (h:Yg l=true):∃t,l=47::47::t:=by
 unfold Yg Lib.hasPrefix at h
 match l,h with
 | [],h=>simp at h
 | [a],h=>simp at h
 | a::b::t,h=>simp at h;exact ⟨t,by rw [←h.1,←h.2]⟩
theorem yT {l:List UInt8} (h:Yg l=true):2≤Ze zS l:=by
 obtain ⟨t,rfl⟩:=Vd h
 unfold Ze
 rw [List.takeWhile_cons_of_pos (by decide),List.takeWhile_cons_of_pos (by decide)]
 simp
def ZL (l:List UInt8):Nat :=
 if _h:Yg (l.drop (Ze zB l))=true then
  Ze zB l+(Ze zS (l.drop (Ze zB l))+ZL ((l.drop (Ze zB l)).drop (Ze zS (l.drop (Ze zB l)))))
 else Ze zB l
termination_by l.length
decreasing_by
 have:=yT ‹_›
 have h3:=y9 zS (l.drop (Ze zB l));simp only [List.length_drop] at *;omega
def Xq (r:List UInt8):Nat:=if Yg r=true then Ze zS r+ZL (r.drop (Ze zS r)) else 0
theorem YB (l:List UInt8):ZL l=Ze zB l+Xq (l.drop (Ze zB l)):=by
 rw [ZL]
 unfold Xq
 by_cases h:Yg (l.drop (Ze zB l))=true
 ·rw [dif_pos h,if_pos h]
 ·rw [dif_neg h,if_neg h];rfl
theorem VD:∀(n:Nat) (l:List UInt8),l.length≤n→ZL l≤l.length
 | n,l,hn=>by
  rw [ZL];have y:=y9 zB l
  by_cases h:Yg (l.drop (Ze zB l))=true
  ·rw [dif_pos h]
   have z:=yT h;have o:=y9 zS (l.drop (Ze zB l));rw [List.length_drop] at o;have e:=VD (n-1) ((l.drop (Ze zB l)).drop (Ze zS (l.drop (Ze zB l)))) (by simp only [List.length_drop];omega)
   simp only [List.length_drop] at e;omega
  ·rw [dif_neg h];exact y
termination_by _ l=>l.length
decreasing_by
 have:=yT ‹_›
 have h3:=y9 zS (l.drop (Ze zB l));simp only [List.length_drop] at *;omega
theorem zal (l:List UInt8) (w:World) (hl:l.length≤9223372036854775000) :
  Calls Tryz.prog 139 #[.string (za l)] w fun e w'=>e=.returned (.int .i64 (ZL l))∧w=w':=by
 obtain ⟨G,D⟩:∃G,G=ZL l:=⟨_,rfl⟩;have R:G≤l.length:=by rw [D];exact VD _ l (Nat.le_refl _)
 have M:=y9 zB l;have X:Hid (G=Ze zB l+Xq (l.drop (Ze zB l))):=show G=_ by rw [D];exact YB l
 have o:Hid (∀a,a≤l.length→∀wx,(Instr.slice 9 (.string (za l)) (some (.int .i64 (a:Int))) none none).run Tryz.prog wx=.ok (.string (za (l.drop a))) wx):=fun a h wx=>yR wx l a h
 rw [←D];clear D
 go_enter Tryz.func139,Tryz.ntmps139
 go_wp2_with fail
 have L:=Vc l w hl;rw [show (l.takeWhile fun c=>zB c.toNat).length=Ze zB l from rfl] at L
 refine L.mono ?_;clear L;rintro e O ⟨rfl,rfl⟩;go_wp2_with fail
 go_loop [3] (fun v=>∃a:Nat,a≤l.length∧v=.int .i64 a∧G=a+Xq (l.drop a)) (fun v=>l.length-(intOf v).toNat)
 case atStart=>exact ⟨_,M,rfl,X.out⟩
 case round =>
  obtain ⟨a,U,rfl,z⟩:=hrel;have y:Hid (G=a+Xq (l.drop a)):=z;have aa:=o.out a U;clear z;have H:=Tryz.strings_HasPrefix (za (l.drop a)) ⟨#[47,47]⟩ w;rw [show Lib.hasPrefix (za (l.drop a)).data.toList (⟨#[47,47]⟩:ByteArray).data.toList=Yg (l.drop a) from rfl] at H
  go_wp2_with fail
  refine H.mono ?_;clear H;rintro e O ⟨rfl,rfl⟩;cases hr:Yg (l.drop a) with
  | false =>
   have I:G=a:=by rw [y.out];unfold Xq;rw [hr];rfl
   subst I;go_wp2
   go_ret
   exact ⟨rfl,rfl⟩
  | true =>
   have Y:=yT hr;have Q:=y9 zS (l.drop a);rw [List.length_drop] at Q;obtain ⟨m,E⟩:∃m,m=Ze zS (l.drop a):=⟨_,rfl⟩;rw [←E] at Y Q;have J:=qv (l.drop a) O (by rw [List.length_drop];omega)
   rw [show ((l.drop a).takeWhile fun c=>zS c.toNat).length=Ze zS (l.drop a) from rfl,←E] at J
   have K:=o.out (a+m) (by omega)
   rw [Int.natCast_add] at K;obtain ⟨b,A⟩:∃b,b=Ze zB (l.drop (a+m)):=⟨_,rfl⟩;have T:=y9 zB (l.drop (a+m));rw [←A,List.length_drop] at T;have N:=Vc (l.drop (a+m)) O (by rw [List.length_drop];omega)
   rw [show ((l.drop (a+m)).takeWhile fun c=>zB c.toNat).length=Ze zB (l.drop (a+m)) from rfl,←A] at N
   have Z:Hid (G=a+m+b+Xq (l.drop (a+m+b))):=show G=a+m+b+Xq (l.drop (a+m+b)) by
    rw [y.out];have W:Xq (l.drop a)=m+ZL ((l.drop a).drop m):=by unfold Xq;rw [if_pos hr,←E]
    rw [W,List.drop_drop,YB,←A,List.drop_drop];omega
   clear E A;go_wp2_with fail
   refine J.mono ?_;clear J;rintro e V ⟨rfl,rfl⟩;go_wp2_with fail
   refine N.mono ?_;clear N;rintro e V ⟨rfl,rfl⟩;go_wp2
   refine ⟨⟨a+m+b,by omega,by go_num,Z.out⟩,by simp [intOf];omega⟩
end Go.Proofs.YtmbofhpmockmbaaGreatDoor
